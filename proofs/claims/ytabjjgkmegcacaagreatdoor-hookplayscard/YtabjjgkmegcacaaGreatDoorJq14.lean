/-
A part of the proof of HookPlays; its card says what is proved.
-/
import Derived.Test.YtabjjgkmegcacaaGreatDoorJq13
import Derived.Stop.Asserts
set_option maxHeartbeats 40000000
open Go.Value renaming int → A
open Go.IntKind renaming i64 → J
open Go.RowKit.Below renaming alloc → bA, setCell → bS, drew → bD, refl → bF
set_option maxRecDepth 1000000
set_option linter.defProp false
set_option linter.unusedVariables false
set_option linter.unusedSimpArgs false
open Go.Ending renaming returned → rT
open Go.Value renaming pointer → pT
open Go.Obj renaming cells → cT
open Go.Proofs.Tryz renaming prog → tP
namespace Go.Proofs.YtabjjgkmegcacaaGreatDoor
section
open Go.ChangeShapes Go.WideShapes Go.ChangeAt Go.RowKit
set_option maxHeartbeats 40000000
set_option maxRecDepth 1000000
attribute [local simp] dwS z04
structure Rdk where
 c:Nat->Nat
 v:Nat->Value
 l:Nat->Value
 zs:Nat->List Zp
 last:Nat->Int
 may:Nat->Int
 left:Nat->Int
 evs:Nat->List (Nat->Int)
 ran:Int
def rdCs(r:Rdk):Array Value:=#[pT (some ⟨r.c 0,0,none⟩),pT (some ⟨r.c 1,0,none⟩),pT (some ⟨r.c 2,0,none⟩),r.l 0,r.l 1,r.l 2,A J (r.may 0),A J (r.may 1),A J (r.may 2),A J (r.left 0),A J (r.left 1),A J (r.left 2),A J r.ran]
def up{α:Type}(f:Nat->α)(k:Nat)(x:α):Nat->α:=fun i=>if i=k then x else f i
theorem z31{α:Type}(f:Nat->α)(k:Nat)(x:α):up f k x k=x:=if_pos rfl
theorem z34{α:Type}(f:Nat->α){k i:Nat}(x:α)(h:i≠k):up f k x i=f i:=if_neg h
structure RAt (w:World) (base D:Nat) (r:Rdk):Prop where
 box:w.heap[D]?=some (cT (rdCs r) 46 (0,0))
 ch: ∀k,k<3->ChAt w base (r.c k) (r.v k) (r.last k) (r.zs k)
 pg: ∀k,k<3-> ∀z,z∈r.zs k->PgOk w (r.c k) z.2
 ev: ∀k,k<3->EvAt w base (r.l k) (r.evs k)
 cs: ∀i j,i<3->j<3->r.c i=r.c j->i=j
 ap: ∀k,k<3->z5h (r.zs k)
 az: ∀i j,i<3->j<3-> ∀x,x∈r.zs i-> ∀y,y∈r.zs j->x.1=y.1->i=j
 ro: ∀i j g,i<3->j<3->(r.l i).ownBlock=some g->(r.l j).ownBlock=some g->i=j
 lo:base<=D/\(∀k,k<3->base<=r.c k)/\ ∀k,k<3-> ∀z,z∈r.zs k->base<=z.1
def Fr(base:Nat)(w w':World):Prop:=Below 0 w w'/\(∀k,k<base->w'.heap[k]?=w.heap[k]?)/\ ∀(k:Nat) cs t fz,w.heap[k]?=some (Obj.cells cs t fz)->t≠46->t≠52->t≠59->t≠34->w'.heap[k]?=w.heap[k]?
theorem Fr.of{base:Nat}{w w':World}(h:Below w.heap.size w w')(hb:base<=w.heap.size):Fr base w w':=⟨h.mono (Nat.zero_le _),fun k hk=>h.block k kO,fun k cs t fz hk _ _ _ _=>h.block k (Array.getElem?_eq_some_iff.1 hk).1⟩
theorem Fr.trans{base:Nat}{w w' w'':World}(h:Fr base w w')(h':Fr base w' w''):Fr base w w'':=⟨h.1.trans h'.1,fun k hk=>(h'.2.1 k hk).trans (h.2.1 k hk),fun k cs t fz hk a b c d=>(h'.2.2 k cs t fz ((h.2.2 k cs t fz hk a b c d).trans hk) a b c d).trans (h.2.2 k cs t fz hk a b c d)⟩
theorem zH5{w:World}{base g:Nat}{v:Value}{evs:List (Nat->Int)}(h:EvAt w base v evs)(hg:v.ownBlock=some g):base<=g/\ ∃cs,w.heap[g]?=some (cT cs 34 (0,0)):=by
 rcases h with⟨rfl, -⟩|⟨b,off,cap,cs,rfl, -,h1,h2, -⟩
 ·cases hg
 cases hg;exact⟨h1,cs,h2⟩
section
variable {w w':World} {base D k:Nat} {r:Rdk} {T:Nat->Int}
theorem RAt.chains(h:RAt w base D r)(hs:w.heap.size<=w'.heap.size)(tg: ∀(k:Nat) cs t fz,w.heap[k]?=some (Obj.cells cs t fz)->t≠46->t≠34->w'.heap[k]?=w.heap[k]?):(∀k,k<3->ChAt w' base (r.c k) (r.v k) (r.last k) (r.zs k))/\ ∀k,k<3-> ∀z,z∈r.zs k->PgOk w' (r.c k) z.2:=by
 refine⟨fun k hk=>(h.ch k hk).on hs fun j hj hx=>?_,fun k hk z hz=>z8p (h.pg k hk z hz) hs fun j cs fz hj=>⟨z1p hj (h.ch k hk).box kD,tg j cs _ fz hj kD kD⟩⟩;rcases hx with rfl|hx|⟨z,hz,rfl⟩
 ·exact tg _ _ _ _ (h.ch k hk).box kD kD
 ·rcases(h.ch k hk).row.2 with⟨e, -⟩|⟨g,cp,cur,e, -,hg, -⟩
  ·rw[e]at hx;cases hx
  ·rw[e]at hx
   cases hx;exact tg _ _ _ _ hg kD kD
 exact tg _ _ _ _ ((h.ch k hk).pgs z hz) kD kD
theorem RAt.later(h:RAt w base D r)(hb:Below w.heap.size w w'):RAt w' base D r:=
 ⟨(hb.block _ (Array.getElem?_eq_some_iff.1 h.box).1).trans h.box,fun k hk=>(h.ch k hk).later hb,fun k hk z hz=>(h.pg k hk z hz).later hb,fun k hk=>(h.ev k hk).on fun g cs _ hg=>hb.block g (Array.getElem?_eq_some_iff.1 hg).1,h.cs,h.ap,h.az,h.ro,h.lo⟩
def Rdk.ev(r:Rdk)(k:Nat)(v:Value)(T:Nat->Int):Rdk:={r with l:=up r.l k v,evs:=up r.evs k (r.evs k++[T])}
theorem zY0(r:Rdk)(hk:k<3)(v:Value):(rdCs r).setIfInBounds (3+k) v=rdCs (r.ev k v T):=by
 rcases(show k=0\/k=1\/k=2 by omega)with rfl|rfl|rfl<;>rfl
theorem RAt.event{v':Value}{w2:World}(h:RAt w base D r)(hk:k<3)(hb:base<=w.heap.size)(h1:EvAt w2 base v' (r.evs k++[T]))(h2:Below 0 w w2)(h3:v'.ownBlock=(r.l k).ownBlock\/ ∃g,v'.ownBlock=some g/\w.heap.size<=g)(h4: ∀j,j<w.heap.size->some j≠(r.l k).ownBlock->w2.heap[j]?=w.heap[j]?):RAt (w2.setCell ⟨D,3+k,none⟩ v') base D (r.ev k v' T)/\Fr base w (w2.setCell ⟨D,3+k,none⟩ v'):=by
 have lt: ∀{j:Nat}{o:Obj},w.heap[j]?=some o->j<w.heap.size:=fun hj=>(Array.getElem?_eq_some_iff.1 hj).1
 have nr: ∀{j:Nat}{cs:Array Value}{t:TypeId}{fz:Nat×Nat},w.heap[j]?=some (cT cs t fz)->t≠34->some j≠(r.l k).ownBlock:=fun hj ht e=>by
  obtain⟨-,cs',hc⟩:=zH5 (h.ev k hk) e.symm;exact z1p hj hc ht rfl
 have t2: ∀(j:Nat) cs t fz,w.heap[j]?=some (Obj.cells cs t fz)->t≠34->w2.heap[j]?=w.heap[j]?:=fun j cs t fz hj ht=>h4 j (lt hj) (nr hj ht);have bx:=(t2 _ _ _ _ h.box kD).trans h.box;have tg: ∀(j:Nat) cs t fz,w.heap[j]?=some (Obj.cells cs t fz)->t≠46->t≠34->(w2.setCell ⟨D,3+k,none⟩ v').heap[j]?=w.heap[j]?:=fun j cs t fz hj h5 h6=>(heap_setCell_other _ _ _ _ (z1p hj h.box h5)).trans (t2 j cs t fz hj h6);have hs:w.heap.size<=(w2.setCell ⟨D,3+k,none⟩ v').heap.size:=by simpa using h2.size
 obtain⟨c1,c2⟩:=h.chains hs tg;have evD: ∀{j:Nat}{cs:Array Value},w2.heap[j]?=some (cT cs 34 (0,0))->(w2.setCell ⟨D,3+k,none⟩ v').heap[j]?=w2.heap[j]?:=fun hj=>heap_setCell_other _ _ _ _ (z28 hj bx kD);refine⟨⟨by rw[<-zY0 r hk v' (T:=T)];exact heap_setCell_same w2 D (3+k) _ _ v' bx,c1,c2,fun j hj=>?_,h.cs,h.ap,h.az,fun i j g hi hj e1 e2=>?_,h.lo⟩,h2.setCell (Nat.zero_le _) _,fun j hj=>?_,fun j cs t fz hj h5 h6 h7 h8=>tg j cs t fz hj h5 h8⟩
 ·show EvAt _ base (up r.l k v' j) (up r.evs k _ j)
  by_cases e:j=k
  ·subst e
   rw[z31,z31];exact h1.on fun g cs _ hg=>evD hg
  ·rw[z34 _ _ e,z34 _ _ e]
   have h0:EvAt w2 base (r.l j) (r.evs j):=(h.ev j hj).on fun g cs e1 hg=>h4 g (lt hg) fun e2=>e (h.ro j k g hj hk e1 e2.symm);exact h0.on fun g cs _ hg=>evD hg
 ·have key: ∀i g,i<3->i≠k->(up r.l k v' i).ownBlock=some g->v'.ownBlock≠some g:=fun i g hi hne e1 e2=>by
   rw[z34 _ _ hne]at e1;rcases h3 with h3|⟨g',h3,h5⟩
   ·exact hne (h.ro i k g hi hk e1 (h3.symm.trans e2))
   ·obtain⟨-,cs,hc⟩:=zH5 (h.ev i hi) e1
    have:=lt hc;rw[h3]at e2
    cases e2;omega
  by_cases ei:i=k<;>by_cases ej:j=k
  ·rw[ei,ej]
  ·subst ei
   exact absurd ((z31 r.l i v')▸e1) (key j g hj ej e2)
  ·subst ej
   exact absurd ((z31 r.l j v')▸e2) (key i g hi ei e1)
  ·have e1:(up r.l k v' i).ownBlock=some g:=e1
   have e2:(up r.l k v' j).ownBlock=some g:=e2;rw[z34 _ _ ei]at e1;rw[z34 _ _ ej]at e2;exact h.ro i j g hi hj e1 e2
 have hj':j<w.heap.size:=kO;refine(heap_setCell_other _ _ _ _ (show j≠D by have:=h.lo.1;omega)).trans (h4 j hj' fun e=>?_);have:=(zH5 (h.ev k hk) e.symm).1;omega
end
end
section
open Go.ChangeShapes Go.WideShapes Go.ChangeAt Go.RowKit
set_option maxHeartbeats 40000000
set_option maxRecDepth 1000000
attribute [local simp] dwS z04
theorem zWp(k:Nat)(hk:k<3)(w:World):zS 37 #[A J (k:Int),A J 0,A J 2] w (.bool true):=by
 have d0:decide ((0:Int)<=(k:Int))=true:=by simp
 have d1:decide ((k:Int)<=2)=true:=kZ;unfold zS;go_in
 go_wp2_with fail;go_ret;exact⟨rfl,rfl⟩
theorem zKy{w:World}{D k:Nat}{r:Rdk}(h:w.heap[D]?=some (cT (rdCs r) 46 (0,0)))(hk:k<3):w.cell? ⟨D,3+k,none⟩=some (r.l k)/\w.frozen? ⟨D,3+k,none⟩=false/\D<w.heap.size:=by
 refine⟨?_,by simp[World.frozen?,h],(Array.getElem?_eq_some_iff.1 h).1⟩;rw[cell_of_row w D (3+k) _ _ _ h];rcases(show k=0\/k=1\/k=2 by omega)with rfl|rfl|rfl<;>rfl
theorem z9x{w:World}{base:Nat}{v:Value}{evs:List (Nat->Int)}(h:EvAt w base v evs): ∃a c,v= .slice a evs.length c:=by
 rcases h with⟨rfl,rfl⟩|⟨b,off,cap,cs,rfl, -⟩
 ·exact⟨_,_,rfl⟩
 exact⟨_,_,rfl⟩
theorem zDg{o:Oper}{u:Act}{x:Operand}(W:World)(T:Nat->Int)(ho:o.op= .buildSlice 41 1 #[(0,x)])(hx:u.eval x= .agg (z06 T)):(execOp u.eval o).run tP W= .ok (.value (.slice (some ⟨W.heap.size,0,none⟩) 1 1)) (W.alloc (cT (z06 T) 34)):=by
 obtain⟨i0,hi0,hz0,hz1,hz2⟩:=info_parts Tryz.infoTold;have hr:=run_buildSlice (P:=tP) W 41 34 1 #[(0,.agg (z06 T))] (z06 T) i0 (.agg z44) Tryz.underlying41 hi0 hz0 (by rw[hz1];omega) (by rw[hz1];omega) (by rw[hz1];kernel_rfl);unfold execOp;simp only[ho,List.map_toArray,List.map_cons,List.map_nil,hx,Sem.run_bind,Sem.run_pure,Result.andThen_ok,hr]
theorem zQ8{w:World}{base D k:Nat}{r:Rdk}(h:RAt w base D r)(hk:k<3)(hb:base<=w.heap.size)(T:Nat->Int)(h20:(r.evs k).length<=20):Calls tP 22 #[pT (some ⟨D,0,none⟩),A J (k:Int),.agg (z06 T)] w fun e w'=>((r.evs k).length=20/\e= rT (A J 12)/\Below w.heap.size w w')\/((r.evs k).length<20/\e= rT (A J 0)/\ ∃v',RAt w' base D (r.ev k v' T)/\Fr base w w'):=by
 obtain⟨a,cp,el⟩:=z9x (h.ev k hk);obtain⟨n,hn⟩: ∃n,Hid ((r.evs k).length=n):=⟨_,rfl⟩;rw[hn.out]at el h20;have k0:(0:Int)<=(k:Int):=kO;have k1:(k:Int)<3:=kO;replace h:Hid _:=h
 replace el:Hid _:=el
 go_in
 go_upto_region 1 with fail
 refine gnl (W:=w) kMm ?_;intro w1 hM;have F:=zKy (h.out.later hM.b).box hk;rw[el.out]at F;rcases dc (20<=n)with⟨g,d⟩|⟨g,d⟩
 ·have t:decide (20<=(n:Int))=true:=kZ
  have hbw:=hM.b;go_wp2_with(go_at_call 37;refine cS (zWp k hk _) ?_);go_ret;exact .inl ⟨by rw[hn.out];omega,rfl,hbw⟩
 have t:decide (20<=(n:Int))=false:=kZ;go_upto_region 5 with(go_at_call 37;refine cS (zWp k hk _) ?_)
 have hA:=(h.out.later hM.b).later ((bF w1.heap.size w1).drew);have hS:w1.drew.heap[D]?=some (cT (rdCs r) 46 (0,0))/\w1.drew.heap[w.heap.size]?=some (cT (z06 T) 34 (0,0)):=⟨hA.box,hM.row kMe⟩;have hb1:Below w.heap.size w w1.drew:=hM.b.drew;clear F hM;refine wp_region_held_drew (S:=fun U=>U.heap[w.heap.size]?=some (cT (z06 T) 34 (0,0))) kR hS.2 fun _=>?_;change wpAnyH _ _ _ _ _ 15 (Array.replicate 15 false) _ _
 generalize w1.drew=wd at*;obtain⟨v',w2,hr,e1,e2,e3,e4⟩:=zPz T (hA.ev k hk) (by rw[hn.out];omega) (Nat.le_trans hb hb1.size);rw[el.out]at hr;refine tkH (i:=0) (some 18) (pT (some ⟨D,0,none⟩)) rfl rfl (fun V hV=>kG) hS.2 ?_;simp only[pS];refine tkH (i:=1) (some 19) (A J (k:Int)) rfl rfl (fun V hV=>kG) hS.2 ?_;simp only[pS];refine tkH (i:=2) (some 20) (pT (some ⟨D,0,none⟩)) rfl rfl (fun V hV=>kG) hS.2 ?_;simp only[pS];refine tkH (i:=3) (some 21) (A J (k:Int)) rfl rfl (fun V hV=>kG) hS.2 ?_;simp only[pS];refine tkH (i:=4) (some 22) (pT (some ⟨D,0,none⟩)) rfl rfl (fun V hV=>kG) hS.2 ?_;simp only[pS];refine tkH (i:=5) (some 23) (pT (some ⟨D,3,none⟩)) rfl rfl (fun V hV=>kG) hS.2 ?_;simp only[pS];refine tkH (i:=6) (some 24) (pT (some ⟨D,3+k,none⟩)) rfl rfl (fun V hV=>kG) hS.2 ?_;simp only[pS];refine tkH (i:=8) (some 26) (.agg (z06 T)) rfl rfl (fun V hV=>z5a hV rfl rfl) hS.2 ?_;simp only[pS];refine tkH (i:=11) (some 29) (pT (some ⟨D,0,none⟩)) rfl rfl (fun V hV=>kG) hS.2 ?_;simp only[pS];refine tkH (i:=12) (some 30) (pT (some ⟨D,3,none⟩)) rfl rfl (fun V hV=>kG) hS.2 ?_;simp only[pS];have hT1:(wd.alloc (cT (z06 T) 34)).heap[w.heap.size]?=some (cT (z06 T) 34 (0,0)):=(heap_alloc_old wd _ (Array.getElem?_eq_some_iff.1 hS.2).1).trans hS.2;have hq0:=zKy hS.1 hk;have hq1:=zKy ((heap_alloc_old wd (cT (z06 T) 34) (Array.getElem?_eq_some_iff.1 hS.1).1).trans hS.1) hk;rw[el.out]at hq0 hq1
 have hS2:w2.heap[D]?=some (cT (rdCs r) 46 (0,0))/\w2.heap[w.heap.size]?=some (cT (z06 T) 34 (0,0)):=by
  refine⟨(e4 D (Array.getElem?_eq_some_iff.1 hS.1).1 fun e=>?_).trans hS.1,(e4 _ (Array.getElem?_eq_some_iff.1 hS.2).1 fun e=>?_).trans hS.2⟩
  ·obtain⟨-,cs,hc⟩:=zH5 (hA.ev k hk) e.symm
   exact z28 hS.1 hc kD rfl
  ·obtain⟨-,cs,hc⟩:=zH5 (h.out.ev k hk) e.symm
   exact absurd (Array.getElem?_eq_some_iff.1 hc).1 (Nat.lt_irrefl _)
 have HX:=hA.event hk (Nat.le_trans hb hb1.size) e1 e2 e3 e4;have hq:=zKy hS2.1 hk;rw[el.out]at hq;obtain⟨a',c',ev'⟩:=z9x e1;rw[List.length_append,hn.out]at ev';subst ev';replace HX:Hid _:=HX
 refine wpAnyH_ready (rs:=[7,9]) kR kS ?_;refine z24 (some 25) (.slice a n cp) wd rfl rfl kI (by go_simp) hS.2 ?goA (z24 (some 27) (.slice (some ⟨wd.heap.size,0,none⟩) 1 1) (wd.alloc (cT (z06 T) 34)) rfl rfl kI (zDg wd T rfl rfl) hT1 ?goB AllReadyH.nil)
 case' goA=>(simp only[pS];refine wpAnyH_ready (rs:=[9]) kR kS ?_;refine z24 (some 27) (.slice (some ⟨wd.heap.size,0,none⟩) 1 1) (wd.alloc (cT (z06 T) 34)) rfl rfl kI (zDg wd T rfl rfl) hT1 ?_ AllReadyH.nil)
 case' goB=>(simp only[pS];refine wpAnyH_ready (rs:=[7]) kR kS ?_;refine z24 (some 25) (.slice a n cp) (wd.alloc (cT (z06 T) 34)) rfl rfl kI (by go_simp) hT1 ?_ AllReadyH.nil)
 all_goals
  simp only[pS];refine wpAnyH_ready (rs:=[10]) kR kS ?_;refine z24 (some 28) _ w2 rfl rfl kI (z3s _ _ _ _ _ _ _ _ rfl rfl rfl hr) hS2.2 ?_ AllReadyH.nil;simp only[pS];refine tkH (i:=13) (some 31) (pT (some ⟨D,3+k,none⟩)) rfl rfl (fun V hV=>kG) hS2.2 ?_;simp only[pS];refine wpAnyH_ready (rs:=[14]) kR kS ?_;refine z3b (w2.setCell ⟨D,3+k,none⟩ (.slice a' (n+[T].length) c')) rfl rfl kI (by go_simp) ((heap_setCell_other _ _ _ _ (z28 hS2.2 hS2.1 kD)).trans hS2.2) ?_ AllReadyH.nil;simp only[pS];refine wpAnyH_done kR ?_ _;go_wp2_with fail;go_ret;exact .inr ⟨by rw[hn.out];omega,rfl,_,HX.out.1,(Fr.of hb1 hb).trans HX.out.2⟩
end
section
open Go.ChangeShapes Go.WideShapes Go.ChangeAt Go.RowKit
set_option maxHeartbeats 40000000
set_option maxRecDepth 1000000
attribute [local simp] dwS z04
def rd0(b:Nat)(may:Nat->Int):Rdk:=⟨fun k=>b+k,fun _=> .slice none 0 0,fun _=> .slice none 0 0,fun _=>[],fun _=>0,may,fun _=>0,fun _=>[],0⟩
theorem new_at{w w':World}{may:Nat->Int}{x:Nat×Array Value×TypeId}(hM:Mm w [(w.heap.size+1+1+1+1,rdCs (rd0 (w.heap.size+1) may),46),(w.heap.size+1+1+1, #[.slice none 0 0,A J 0],52),(w.heap.size+1+1, #[.slice none 0 0,A J 0],52),(w.heap.size+1, #[.slice none 0 0,A J 0],52),x] w'):RAt w' w.heap.size (w.heap.size+1+1+1+1) (rd0 (w.heap.size+1) may):=by
 refine⟨hM.row kMe,fun k hk=>⟨?_,World.ownsRow_nil _ _ _ _,fun z hz=>absurd hz List.not_mem_nil⟩,fun k _ z hz=>absurd hz List.not_mem_nil,fun k _=> .inl ⟨rfl,rfl⟩,fun i j _ _ e=>Nat.add_left_cancel e,fun k _=>List.nodup_nil,fun i j _ _ x hx=>absurd hx List.not_mem_nil,fun i j g _ _ e=>absurd e (by simp[rd0,Value.ownBlock]),⟨by omega,fun k _=>by show w.heap.size<=w.heap.size+1+k;omega,fun k _ z hz=>absurd hz List.not_mem_nil⟩⟩;rcases(show k=0\/k=1\/k=2 by omega)with rfl|rfl|rfl
 ·exact hM.row (g:=w.heap.size+1) (cs:=#[.slice none 0 0,A J 0]) kMe
 ·exact hM.row (g:=w.heap.size+1+1) (cs:=#[.slice none 0 0,A J 0]) kMe
 exact hM.row (g:=w.heap.size+1+1+1) (cs:=#[.slice none 0 0,A J 0]) kMe
theorem zXu(may:Nat->Int)(w:World):Calls tP 6 #[.agg #[A J (may 0),A J (may 1),A J (may 2)]] w fun e w'=>e= rT (pT (some ⟨w.heap.size+1+1+1+1,0,none⟩))/\RAt w' w.heap.size (w.heap.size+1+1+1+1) (rd0 (w.heap.size+1) may)/\Below w.heap.size w w':=by
 have hM:=Mm.new (Mm.new (Mm.new (Mm.new (Mm.new (Mm.start w) #[A J (may 0),A J (may 1),A J (may 2)] 22) #[.slice none 0 0,A J 0] 52) #[.slice none 0 0,A J 0] 52) #[.slice none 0 0,A J 0] 52) (rdCs (rd0 (w.heap.size+1) may)) 46;simp only[World.size_alloc]at hM;have HM:Hid _:=And.intro (new_at hM) hM.b;clear hM;go_in
 go_wp2_with fail;go_ret;exact⟨rfl,HM.out⟩
def Rdk.chn(r:Rdk)(k:Nat)(v:Value)(last:Int)(zs:List Zp):Rdk:={r with v:=up r.v k v,last:=up r.last k last,zs:=up r.zs k zs}
theorem RAt.chain{w w':World}{base D k:Nat}{r:Rdk}{S:List Nat}{v':Value}{last':Int}{zs':List Zp}(h:RAt w base D r)(hk:k<3)(hb:base<=w.heap.size)(hS: ∀x,x∈S->x=r.c k\/ ∃z,z∈r.zs k/\z.1=x)(hK:KpS S w w')(hC:ChAt w' base (r.c k) v' last' zs')(hP: ∀z,z∈zs'->PgOk w' (r.c k) z.2)(hA:z5h zs')(hz: ∀z,z∈zs'->(∃y,y∈r.zs k/\y.1=z.1)\/w.heap.size<=z.1):RAt w' base D (r.chn k v' last' zs')/\Fr base w w':=by
 have lt: ∀{j:Nat}{o:Obj},w.heap[j]?=some o->j<w.heap.size:=fun hj=>(Array.getElem?_eq_some_iff.1 hj).1
 have tg: ∀(j:Nat) cs t fz,w.heap[j]?=some (Obj.cells cs t fz)->t≠52->t≠59->w'.heap[j]?=w.heap[j]?:=fun j cs t fz hj h1 h2=>hK.2 j (lt hj) fun e=>by
  rcases hS j e with rfl|⟨z,hz,rfl⟩
  ·exact z1p hj (h.ch k hk).box h1 rfl
  ·exact z1p hj ((h.ch k hk).pgs z hz) h2 rfl
 have inj: ∀{i:Nat}{x:Zp},i<3->i≠k->x∈r.zs i-> ∀z,z∈zs'->x.1≠z.1:=fun{i x} hi hne hx z hz' e=>by
  rcases hz z hz' with⟨y,hy,e2⟩|h2
  ·exact hne (h.az i k hi hk x hx y hy (e.trans e2.symm))
  ·have:=lt ((h.ch i hi).pgs x hx)
   omega
 refine⟨⟨(tg _ _ _ _ h.box kD kD).trans h.box,fun j hj=>?_,fun j hj z hz'=>?_,fun j hj=>(h.ev j hj).on fun g cs _ hg=>tg _ _ _ _ hg kD kD,h.cs,fun j hj=>?_,fun i j hi hj x hx y hy e=>?_,h.ro,h.lo.1,h.lo.2.1,fun j hj z hz'=>?_⟩,hK.1,fun j hj=>hK.2 j kO fun e=>?_,fun j cs t fz hj h1 h2 h3 h4=>tg j cs t fz hj h2 h3⟩
 ·show ChAt w' base (r.c j) (up r.v k v' j) (up r.last k last' j) (up r.zs k zs' j)
  by_cases e:j=k
  ·subst e
   rw[z31,z31,z31];exact hC
  ·rw[z34 _ _ e,z34 _ _ e,z34 _ _ e]
   refine(h.ch j hj).on hK.1.size fun i hi hx=>hK.2 i hi fun hi'=>?_;rcases hx with rfl|hx|⟨z,hz',rfl⟩
   ·rcases hS _ hi' with e2|⟨y,hy,e2⟩
    ·exact e (h.cs j k hj hk e2)
    ·exact z28 ((h.ch k hk).pgs y hy) (h.ch j hj).box kD e2
   ·rcases(h.ch j hj).row.2 with⟨e3, -⟩|⟨g,cp,cur,e3, -,hg, -⟩
    ·rw[e3]at hx;cases hx
    ·rw[e3]at hx
     cases hx;rcases hS _ hi' with e2|⟨y,hy,e2⟩
     ·exact z28 hg (h.ch k hk).box kD e2
     ·exact z28 ((h.ch k hk).pgs y hy) hg kD e2
   ·rcases hS _ hi' with e2|⟨y,hy,e2⟩
    ·exact z28 ((h.ch j hj).pgs z hz') (h.ch k hk).box kD e2
    ·exact e (h.az j k hj hk z hz' y hy e2.symm)
 ·have hz':z∈up r.zs k zs' j:=hz'
  show PgOk w' (r.c j) z.2
  by_cases e:j=k
  ·subst e
   rw[z31]at hz';exact hP z hz'
  ·rw[z34 _ _ e]at hz'
   exact z8p (h.pg j hj z hz') hK.1.size fun i cs fz hi=>⟨z1p hi (h.ch j hj).box kD,tg i cs _ fz hi kD kD⟩
 ·show z5h (up r.zs k zs' j)
  by_cases e:j=k
  ·subst e
   rw[z31];exact hA
  ·rw[z34 _ _ e]
   exact h.ap j hj
 ·have hx:x∈up r.zs k zs' i:=hx
  have hy:y∈up r.zs k zs' j:=hy
  by_cases ei:i=k<;>by_cases ej:j=k
  ·rw[ei,ej]
  ·rw[ei,z31]at hx
   rw[z34 _ _ ej]at hy;exact absurd e.symm (inj hj ej hy x hx)
  ·rw[z34 _ _ ei]at hx
   rw[ej,z31]at hy;exact absurd e (inj hi ei hx y hy)
  ·rw[z34 _ _ ei]at hx
   rw[z34 _ _ ej]at hy;exact h.az i j hi hj x hx y hy e
 ·have hz':z∈up r.zs k zs' j:=hz'
  by_cases e:j=k
  ·rw[e,z31]at hz'
   rcases hz z hz' with⟨y,hy,e2⟩|h2
   ·rw[<-e2];exact h.lo.2.2 k hk y hy
   ·omega
  ·rw[z34 _ _ e]at hz'
   exact h.lo.2.2 j hj z hz'
 rcases hS j e with rfl|⟨z,hz',rfl⟩
 ·have:=h.lo.2.1 k hk;omega
 have:=h.lo.2.2 k hk z hz';omega
end
section
open Go.ChangeShapes Go.WideShapes Go.ChangeAt Go.RowKit
set_option maxHeartbeats 4000000
attribute [local simp] dwS z04
def Rdk.gt(r:Rdk)(k:Nat):Gt:=⟨(r.zs k).map fun z=>z.2,r.last k,r.evs k,r.may k,r.left k⟩
def Rdk.dsk(r:Rdk):Dsk:=⟨r.gt,r.ran⟩
section
variable {w w':World} {base D k i:Nat} {r r':Rdk} {x:Value}
theorem RAt.tags(h:RAt w base D r)(hs:w.heap.size<=w'.heap.size)(tg: ∀(k:Nat) cs t fz,w.heap[k]?=some (Obj.cells cs t fz)->(t=46\/t=52\/t=59\/t=60\/t=34\/t=121)->w'.heap[k]?=w.heap[k]?):RAt w' base D r:=by
 refine⟨(tg _ _ _ _ h.box (.inl rfl)).trans h.box,fun k hk=>(h.ch k hk).on hs fun j hj hx=>?_,fun k hk z hz=>z8p (h.pg k hk z hz) hs fun j cs fz hj=>⟨z1p hj (h.ch k hk).box kD,tg j cs _ fz hj kS⟩,fun k hk=>(h.ev k hk).on fun g cs _ hg=>tg _ _ _ _ hg kS,h.cs,h.ap,h.az,h.ro,h.lo⟩;rcases hx with rfl|hx|⟨z,hz,rfl⟩
 ·exact tg _ _ _ _ (h.ch k hk).box kS
 ·rcases(h.ch k hk).row.2 with⟨e, -⟩|⟨g,cp,cur,e, -,hg, -⟩
  ·rw[e]at hx;cases hx
  ·rw[e]at hx
   cases hx;exact tg _ _ _ _ hg kS
 exact tg _ _ _ _ ((h.ch k hk).pgs z hz) kS
theorem RAt.desk(h:RAt w base D r)(e:(rdCs r).setIfInBounds i x=rdCs r')(hc:r'.c=r.c)(hv:r'.v=r.v)(hz:r'.zs=r.zs)(hl:r'.last=r.last)(he: ∀k,k<3->EvAt w base (r'.l k) (r'.evs k))(ho: ∀k g,k<3->(r'.l k).ownBlock=some g->(r.l k).ownBlock=some g):RAt (w.setCell ⟨D,i,none⟩ x) base D r'/\Fr base w (w.setCell ⟨D,i,none⟩ x):=by
 have o: ∀{j:Nat}{cs:Array Value}{t:TypeId}{fz:Nat×Nat},w.heap[j]?=some (cT cs t fz)->t≠46->(w.setCell ⟨D,i,none⟩ x).heap[j]?=w.heap[j]?:=fun hj ht=>heap_setCell_other _ _ _ _ (z1p hj h.box ht);have hs:w.heap.size<=(w.setCell ⟨D,i,none⟩ x).heap.size:=by simp
 obtain⟨c1,c2⟩:=h.chains hs fun j cs t fz hj h1 _=>o hj h1;refine⟨⟨by rw[<-e];exact heap_setCell_same w D i _ _ x h.box,by rw[hc,hv,hz,hl];exact c1,by rw[hc,hz];exact c2,fun k hk=>(he k hk).on fun g cs _ hg=>o hg kD,by rw[hc];exact h.cs,by rw[hz];exact h.ap,by rw[hz];exact h.az,fun a b g ha hb h1 h2=>h.ro a b g ha hb (ho a g ha h1) (ho b g hb h2),by rw[hc,hz];exact h.lo⟩,(bF _ _).setCell (Nat.zero_le _) _,fun k hk=>heap_setCell_other _ _ _ _ (by have:=h.lo.1;show k≠D;omega),fun k cs t fz hk h1 _ _ _=>o hk h1⟩
def Rdk.lf(r:Rdk)(k:Nat)(y:Int):Rdk:={r with left:=up r.left k y}
theorem RAt.lf(h:RAt w base D r)(hk:k<3)(y:Int):RAt (w.setCell ⟨D,9+k,none⟩ (A J y)) base D (r.lf k y)/\Fr base w (w.setCell ⟨D,9+k,none⟩ (A J y)):=
 h.desk (by rcases(show k=0\/k=1\/k=2 by omega)with rfl|rfl|rfl<;>rfl) rfl rfl rfl rfl h.ev fun _ _ _ h=>h
theorem RAt.ran(h:RAt w base D r)(y:Int):RAt (w.setCell ⟨D,12,none⟩ (A J y)) base D {r with ran:=y}/\Fr base w (w.setCell ⟨D,12,none⟩ (A J y)):=
 h.desk rfl rfl rfl rfl rfl h.ev fun _ _ _ h=>h
def Rdk.pop(r:Rdk)(k:Nat)(l:Value)(rest:List (Nat->Int)):Rdk:={r with l:=up r.l k l,evs:=up r.evs k rest}
theorem RAt.pop{l:Value}{rest:List (Nat->Int)}(h:RAt w base D r)(hk:k<3)(he:EvAt w base l rest)(ho: ∀g,l.ownBlock=some g->(r.l k).ownBlock=some g):RAt (w.setCell ⟨D,3+k,none⟩ l) base D (r.pop k l rest)/\Fr base w (w.setCell ⟨D,3+k,none⟩ l):=by
 refine h.desk (by rcases(show k=0\/k=1\/k=2 by omega)with rfl|rfl|rfl<;>rfl) rfl rfl rfl rfl (fun j hj=>?_) fun j g hj h1=>?_
 ·show EvAt w base (up r.l k l j) (up r.evs k rest j)
  by_cases c:j=k
  ·rw[c,z31,z31];exact he
  ·rw[z34 _ _ c,z34 _ _ c];exact h.ev j hj
 have h1:(up r.l k l j).ownBlock=some g:=h1
 by_cases c:j=k
 ·rw[c,z31]at h1;rw[c];exact ho g h1
 rw[z34 _ _ c]at h1;exact h1
end
theorem EvAt.pop{w:World}{base:Nat}{v:Value}{T:Nat->Int}{rest:List (Nat->Int)}(h:EvAt w base v (T::rest)): ∃b off cap,v= .slice (some ⟨b,off,none⟩) (rest.length+1) (cap+1)/\rest.length<=cap/\b<w.heap.size/\(∃cs,w.heap[b]?=some (cT cs 34 (0,0)))/\w.rangeAt b off (z06 T).toList/\EvAt w base (.slice (some ⟨b,if cap=0 then off else off+8,none⟩) rest.length cap) rest:=by
 rcases h with⟨-,e⟩|⟨b,off,cap,cs,rfl,h1,h2,h3,h4,h5⟩
 ·cases e
 rw[List.length_cons]at h1⊢;obtain⟨c,rfl⟩: ∃c,cap=c+1:=⟨cap-1,by omega⟩;refine⟨b,off,c,rfl,by omega,(Array.getElem?_eq_some_iff.1 h3).1,⟨cs,h3⟩,fun j u hu=>?_,.inr ⟨b,_,c,cs,rfl,by omega,h2,h3,?_,fun j u hu=>?_⟩⟩
 ·rw[cell_of_row w b (off+j) _ _ _ h3]
  exact h5 j u (by show((z06 T).toList++evCs rest)[j]?=_;rw[List.getElem?_append_left (List.getElem?_eq_some_iff.1 hu).1];exact hu)
 ·by_cases e:c=0
  ·exact .inl e
  ·rw[if_neg e];right;have:=h4.resolve_left kO;omega
 have hl:=(List.getElem?_eq_some_iff.1 hu).1;rw[zEt]at hl;rw[if_neg kO,show off+8+j=off+(8+j)by omega];refine h5 (8+j) u ?_;show((z06 T).toList++evCs rest)[8+j]?=_;rw[List.getElem?_append_right (show(8:Nat)<=8+j by omega)];show(evCs rest)[8+j-8]?=_;rw[Nat.add_sub_cancel_left];exact hu
theorem zX4(r:Rdk)(k:Nat):z41 r.dsk k=(r.lf k (r.left k+r.may k)).dsk:=by
 unfold z41 Dsk.put Rdk.dsk;congr 1;funext i
 by_cases c:i=k
 ·rw[if_pos c,c];unfold Rdk.gt Rdk.lf;dsimp only;rw[z31]
 rw[if_neg c];unfold Rdk.gt Rdk.lf;dsimp only;rw[z34 _ _ c]
theorem zYy(r:Rdk)(k:Nat)(lv:Int):z43 (r.lf k lv).dsk k=(r.lf k (if(r.evs k).length=0 then min lv 0 else lv)).dsk:=by
 have e1:((r.lf k lv).dsk.g k).left=lv:=z31 _ _ _;unfold z43;show(if(r.evs k).length=0 then _ else _)=_
 by_cases c:(r.evs k).length=0
 ·rw[if_pos c,if_pos c,e1]
  unfold Dsk.put Rdk.dsk;congr 1;funext i
  by_cases c:i=k
  ·rw[if_pos c,c];unfold Rdk.gt Rdk.lf;dsimp only;rw[z31]
  ·rw[if_neg c];unfold Rdk.gt Rdk.lf;dsimp only;rw[z34 _ _ c,z34 _ _ c]
 rw[if_neg c,if_neg c]
theorem dsk_ev(r:Rdk)(k:Nat)(T:Nat->Int)(rest:List (Nat->Int))(lv:Int)(v l:Value)(zs':List Zp)(s:Sd)(hs:(z05 T r.ran ((r.zs k).map fun z=>z.2) sd0).1=s)(hz:zs'.map (fun z=>z.2)=(z05 T r.ran ((r.zs k).map fun z=>z.2) sd0).2):evGo (r.lf k lv).dsk k T rest=(((({((r.chn k v (r.last k) zs').pop k l rest)with ran:=r.ran+1}:Rdk).lf k (lv-(s.steps+1))).dsk),s):=by
 have e1:((r.lf k lv).dsk.g k).left=lv:=z31 _ _ _;have e2:((r.lf k lv).dsk.g k).ps=(r.zs k).map fun z=>z.2:=rfl;have e3:(r.lf k lv).dsk.ran=r.ran:=rfl;unfold evGo;rw[e1,e2,e3,hs, <-hz];congr 1;unfold Dsk.put Rdk.dsk;dsimp only;congr 1;funext i
 by_cases c:i=k
 ·rw[if_pos c,c];unfold Rdk.gt Rdk.lf Rdk.pop Rdk.chn;dsimp only;rw[z31,z31,z31,z31]
 rw[if_neg c];unfold Rdk.gt Rdk.lf Rdk.pop Rdk.chn;dsimp only;rw[z34 _ _ c,z34 _ _ c,z34 _ _ c,z34 _ _ c,z34 _ _ c]
structure DP (d:Dsk) (M:Int):Prop where
 few: ∀k,k<3->(d.g k).ps.length<=8
 ids: ∀k,k<3-> ∀p,p∈(d.g k).ps->p.id≠0
 evs: ∀k,k<3->(d.g k).evs.length<=20
 told: ∀k,k<3-> ∀T,T∈(d.g k).evs-> ∀i,i<8->In64 (T i)
 may: ∀k,k<3->1<=(d.g k).may/\(d.g k).may<=1000
 left: ∀k,k<3-> -1601<=(d.g k).left/\(d.g k).left<=2000
 ran:0<=d.ran/\d.ran<=M
theorem zDd{T:Nat->Int}{time:Int}: ∀(ps:List Pg)(s:Sd)(p:Pg),p∈(z05 T time ps s).2-> ∃q,q∈ps/\p.id=q.id
 |[],s,p,h=>absurd h (by simp[z05])
 |q::ps,s,p,h=>by
  rw[z05]at h
  by_cases c:(q.run T time).num=0
  ·rw[if_pos c]at h
   rcases List.mem_cons.1 h with rfl|h
   ·exact⟨q,mcS,rfl⟩
   ·obtain⟨r,h1,h2⟩:=zDd ps _ p h
    exact⟨r,mcO _ h1,h2⟩
  ·rw[if_neg c]at h
   rcases List.mem_cons.1 h with rfl|h
   ·exact⟨q,mcS,rfl⟩
   ·exact⟨p,mcO _ h,rfl⟩
theorem DP.put{d:Dsk}{M:Int}{k:Nat}{x:Int}(h:DP d M)(h0: -1601<=x)(h1:x<=2000):DP (d.put k {d.g k with left:=x}) M:=by
 refine⟨?_,?_,?_,?_,?_,?_,h.ran⟩<;>intro j hj<;>rw[z3t]<;>split
 all_goals try(rename_i e;subst e)
 ·exact h.few j hj
 ·exact h.few j hj
 ·exact h.ids j hj
 ·exact h.ids j hj
 ·exact h.evs j hj
 ·exact h.evs j hj
 ·exact h.told j hj
 ·exact h.told j hj
 ·exact h.may j hj
 ·exact h.may j hj
 ·exact⟨h0,h1⟩
 exact h.left j hj
theorem DP.ev{d:Dsk}{M:Int}{k:Nat}{T:Nat->Int}{rest:List (Nat->Int)}(h:DP d M)(hk:k<3)(he:(d.g k).evs=T::rest)(hl:0<(d.g k).left)(c1:(z05 T d.ran (d.g k).ps sd0).2.length=(d.g k).ps.length)(c2:0<=(z05 T d.ran (d.g k).ps sd0).1.steps/\(z05 T d.ran (d.g k).ps sd0).1.steps<=1600):DP (evGo d k T rest).1 (M+1):=by
 have hl1:=(h.left k hk).2;have hr:(evGo d k T rest).1.ran=d.ran+1:=rfl;have e: ∀j,((evGo d k T rest).1.g j)=if j=k then{d.g k with ps:=(z05 T d.ran (d.g k).ps sd0).2,evs:=rest,left:=(d.g k).left-((z05 T d.ran (d.g k).ps sd0).1.steps+1)}else d.g j:=fun j=>rfl;refine⟨?_,?_,?_,?_,?_,?_,by rw[hr];have:=h.ran;omega⟩<;>intro j hj<;>rw[e j]<;>split
 ·show(z05 T d.ran (d.g k).ps sd0).2.length<=8;rw[c1];exact h.few k hk
 ·exact h.few j hj
 ·intro p hp
  obtain⟨q,h1,h2⟩:=zDd _ _ p hp;rw[h2];exact h.ids k hk q h1
 ·exact h.ids j hj
 ·show rest.length<=20;have:=h.evs k hk;rw[he,List.length_cons]at this;omega
 ·exact h.evs j hj
 ·exact fun T' hT'=>h.told k hk T' (by rw[he];exact mcO _ hT')
 ·exact h.told j hj
 ·exact h.may k hk
 ·exact h.may j hj
 ·show-1601<=(d.g k).left-((z05 T d.ran (d.g k).ps sd0).1.steps+1)/\(d.g k).left-((z05 T d.ran (d.g k).ps sd0).1.steps+1)<=2000;omega
 exact h.left j hj
def z9g(w:World)(base:Nat)(v:Value)(ds:List Dn):Prop:=w.ownsRow base 98 5 v ds.length (z4s ds)/\ ∀x,x∈ds->w.ownsRow base 2 1 x.v x.s.out.length (x.s.out.map (Value.int .i64))
theorem z5i{w w':World}{b z n:Nat}{t:TypeId}{v:Value}{xs:List Value}(h:w.ownsRow b t z v n xs)(hb: ∀g cs,w.heap[g]?=some (cT cs t (0,0))->b<=g->w'.heap[g]?=w.heap[g]?):w'.ownsRow b t z v n xs:=
 ⟨h.1,h.2.imp id fun⟨g,cap,cur,e1,e2,e3,e4⟩=>⟨g,cap,cur,e1,e2,(hb g _ e3 e2).trans e3,e4⟩⟩
theorem z9g.on{w w':World}{base:Nat}{v:Value}{ds:List Dn}(h:z9g w base v ds)(tg: ∀(k:Nat) cs t,w.heap[k]?=some (cT cs t (0,0))->(t=98\/t=2)->w'.heap[k]?=w.heap[k]?):z9g w' base v ds:=
 ⟨z5i h.1 fun g cs hg _=>tg g cs _ hg (.inl rfl),fun x hx=>z5i (h.2 x hx) fun g cs hg _=>tg g cs _ hg (.inr rfl)⟩
end
section
open Go.ChangeShapes Go.WideShapes Go.ChangeAt Go.RowKit
theorem zYs{C D S:Nat->Int}{R:Nat->Bool}{O N:Nat->Int}{er:Int}{q:Nat}: ∀{f:Nat}{st:List (Nat×Way)}{es:List Kno},goF C D S R O N f st es= .inl (er,q)->(er !=0)=true:=by
 intro f;induction f with
 |zero=>
  intro st es h
  cases st with
  |nil=>rw[goF]at h;cases h
  |cons x st=>rw[goF]at h;cases h;rfl
 |succ f ih=>
  intro st es h
  cases st with
  |nil=>rw[goF]at h;cases h
  |cons x st=>
   rw[goF]at h
   by_cases h0:(x.2.look (C x.1) (D x.1).toNat (S x.1).toNat (R x.1) (O x.1) (N x.1)).2≠0
   ·rw[if_pos h0]at h
    injection h with h
    injection h with h1 h2
    rw[<-h1];simpa using h0
   ·rw[if_neg h0]at h
    exact ih h
theorem zVb{C D S:Nat->Int}{R:Nat->Bool}{O N:Nat->Int}{E:List Kno}: ∀{f:Nat}{st:List (Nat×Way)}{es:List Kno},goF C D S R O N f st es= .inr E->E.length<=es.length+f:=by
 intro f;induction f with
 |zero=>
  intro st es h
  cases st with
  |nil=>rw[goF]at h;cases h;omega
  |cons x st=>rw[goF]at h;cases h
 |succ f ih=>
  intro st es h
  cases st with
  |nil=>rw[goF]at h;cases h;omega
  |cons x st=>
   rw[goF]at h
   by_cases h0:(x.2.look (C x.1) (D x.1).toNat (S x.1).toNat (R x.1) (O x.1) (N x.1)).2≠0
   ·rw[if_pos h0]at h;cases h
   ·rw[if_neg h0]at h
    have:=ih h;split at this
    ·rw[List.length_append]at this;simp at this;omega
    ·omega
theorem zYr{C D S:Nat->Int}{R:Nat->Bool}{O N:Nat->Int}{E:List Kno}(h:goF C D S R O N 4000 [(0,way0)] []= .inr E):E.length<=4000:=by
 have:=zVb h;simpa using this
def abs0:Abs:=⟨fun i=>if i=1 then⟨2,0,0⟩else if i=10 then⟨3,0,0⟩else z2s,fun _=>z2s,fun _=>0,fun _=>0,0,[]⟩
theorem zHh:In64 0:=⟨by decide,by decide⟩
theorem zZo:abs0.Ok:=by
 refine⟨fun i _=>?_,fun _ _=>z59,fun _ _=>zHh,fun _ _=>zHh,zHh,fun x hx=>absurd hx (by simp[abs0]),by decide⟩;show(if i=1 then(⟨2,0,0⟩:Val)else if i=10 then⟨3,0,0⟩else z2s).Ok;split
 ·exact⟨by decide,by decide,⟨by decide,by decide⟩,by decide,by decide⟩
 split
 ·exact⟨by decide,by decide,⟨by decide,by decide⟩,by decide,by decide⟩
 exact z59
theorem zWk:way0.Has abs0:=by
 refine⟨fun i _=>?_,fun _ _=>Or.inl rfl⟩;show(if i=1 then(⟨2,0,0⟩:Kno)else if i=10 then⟨3,0,0⟩else kno0).Has (if i=1 then(⟨2,0,0⟩:Val)else if i=10 then⟨3,0,0⟩else z2s)
 by_cases h1:i=1
 ·rw[if_pos h1,if_pos h1];exact Or.inr (Or.inl ⟨by decide,by decide,rfl,by decide,by decide⟩)
 rw[if_neg h1,if_neg h1]
 by_cases h2:i=10
 ·rw[if_pos h2,if_pos h2];exact Or.inr (Or.inl ⟨by decide,by decide,rfl,by decide,by decide⟩)
 rw[if_neg h2,if_neg h2];exact Or.inl rfl
theorem zRo{C D S:Nat->Int}{R:Nat->Bool}{O N:Nat->Int}{len f:Nat}{es:List Kno}(hr: ∀i,i<len->z9f (C i) (D i) (S i) (R i) (O i) (N i) len i)(hf: ∀i,i<len->In64 (O i)/\In64 (N i))(h0:0<len)(h:goF C D S R O N f [(0,way0)] []= .inr es):1<=es.length:=by
 obtain⟨n,k,a', -, -, -,b,hb, -⟩:=go_from_start hr hf h0 h abs0 zZo zWk;exact List.length_pos_of_mem hb
def VerF(xs:List St)(er ip:Int):Prop:=
 ((xs.length<1\/200<xs.length)/\er=4/\ip= -1)\/
 (1<=xs.length/\xs.length<=200/\ ∃i,i<xs.length/\(∀j,j<i->z5c xs j=0)/\z5c xs i≠0/\er=z5c xs i/\ip=(i:Int))\/
 (1<=xs.length/\xs.length<=200/\(∀j,j<xs.length->z5c xs j=0)/\((∃q:Nat,goL xs= .inl (er,q)/\ip=(q:Int)/\(er !=0)=true)\/(er=0/\ip= -1/\ ∃es,goL xs= .inr es)))
theorem zPc{w:World}{la:Option Addr}{cap:Nat}{xs:List St}(hl:LsAt w (.slice la xs.length cap) xs)(hA:z2z w): ∃er ip,VerF xs er ip/\VerT w (.slice la xs.length cap) er ip:=by
 obtain⟨a,cap',e,h0⟩:=hl.lies
 cases e
 by_cases k2:xs.length<1\/200<xs.length
 ·exact⟨4, -1,.inl ⟨k2,rfl,rfl⟩,fun W hW=>z9m la xs.length cap W 4 (-1) 4 (-1) (fun W' _=>zBs la xs.length cap k2 W') (.inl ⟨rfl,rfl,rfl⟩)⟩
 obtain⟨bk,off,rfl,hbk,hst⟩:=h0.resolve_left kO;have hbk': ∀W,Below w.heap.size w W->bk<W.heap.size:=fun W hW=>Nat.lt_of_lt_of_le hbk hW.size;rcases fault_first (z5c xs) xs.length with h|⟨i,hi,hno,hf⟩
 ·have hr: ∀i,i<xs.length->z9f _ _ _ _ _ _ xs.length i:=fun i hi=>z56 (h i hi)
  have HC: ∀W,Below w.heap.size w W-> ∀W':World,Below W.heap.size W W'->zR 44 #[(.slice (some ⟨bk,off,none⟩) xs.length cap)] W' (.agg #[A J 0,A J (-1)]):=fun W hW W' hW'=>
   z7m h (z1l (z1l hst (hW.block bk hbk)) (hW'.block bk (hbk' W hW))) kO kO (Nat.lt_of_lt_of_le (hbk' W hW) hW'.size)
  have HGO:=fun(W:World) (hW:Below w.heap.size w W) (W':World) (Bl:Nat) (hW':Below W.heap.size W W') (hB:W.heap.size<Bl) (hL:z2h W' Bl W'.heap.size (.slice (some ⟨bk,off,none⟩) xs.length cap) 4000 (.slice none 0 0) [])=>
   zEq kO hr hl.nums 4000 4000 (Nat.le_refl _) W' _ _ way0 0 ⟨z1l (z1l hst (hW.block bk hbk)) (hW'.block bk (hbk' W hW)),Nat.lt_of_lt_of_le (hbk' W hW) hW'.size,by have:=hbk' W hW;omega,(hA.later hW).later hW',by have:=(hA.later hW).1;omega,Nat.lt_of_lt_of_le (hA.later hW).1 hW'.size,Nat.le_refl _⟩ hL zHm kO
  cases hX:goL xs with
  |inl xx=>
   obtain⟨er,q⟩:=xx;have her:(er !=0)=true:=zYs hX;refine⟨er,q,.inr (.inr ⟨by omega,by omega,h,.inl ⟨q,hX,rfl,her⟩⟩),fun W hW=>z9m _ _ _ W er q 0 (-1) (HC W hW) (.inr ⟨rfl,fun W' Bl hW' hB hL=>(HGO W hW W' Bl hW' hB hL).mono fun e w' ⟨v,g1,e',i',g2,g3,g4⟩=>⟨v,g1,e',i',g2,g3,?_⟩⟩)⟩;rcases g4 with⟨k1,j,rfl,k3⟩|⟨k1,E',f',es',k2,k3,k4,k5⟩
   ·have e1:=(k3 []).symm.trans hX
    injection e1 with e1
    injection e1 with e1 e2
    exact .inl ⟨k1,e1,by rw[e2]⟩
   ·have e1:=(k5 []).symm.trans hX
    rw[zJf]at e1
    cases e1
  |inr es=>
   refine⟨0, -1,.inr (.inr ⟨by omega,by omega,h,.inr ⟨rfl,rfl,es,hX⟩⟩),fun W hW=>z9m _ _ _ W 0 (-1) 0 (-1) (HC W hW) (.inr ⟨rfl,fun W' Bl hW' hB hL=>(HGO W hW W' Bl hW' hB hL).mono fun e w' ⟨v,g1,e',i',g2,g3,g4⟩=>⟨v,g1,e',i',g2,g3,?_⟩⟩)⟩;rcases g4 with⟨k1,j,k2,k3⟩|⟨k1,E',f',es',k2,k3,k4,k5⟩
   ·have e1:=(k3 []).symm.trans hX
    cases e1
   ·have e1:=(k5 []).symm.trans hX
    rw[zJf]at e1;injection e1 with e1
    subst e1;exact .inr ⟨k1,⟨rfl,rfl⟩,E',f',es',zRo hr hl.nums kO hX,zYr hX,k3⟩
 exact⟨z5c xs i,i,.inr (.inl ⟨by omega,by omega,i,hi,hno,hf,rfl,rfl⟩),fun W hW=>z9m _ _ _ W _ _ (z5c xs i) i (fun W' hW'=>zG8 hi hno hf (z1l (z1l hst (hW.block bk hbk)) (hW'.block bk (hbk' W hW))) kO kO (Nat.lt_of_lt_of_le (hbk' W hW) hW'.size)) (.inl ⟨by simpa using hf,rfl,rfl⟩)⟩
end
section
open Go.RowKit Go.Extern.Stop Go.Stop Go.Extern
theorem zKo(t:Addr)(w:World):(ReflectliteValue.unpack (.iface 175 (pT (some t)))).run tP w
  = .ok (.agg #[pT (some ⟨2,175,none⟩),pT (some ⟨w.heap.size,0,none⟩),.int .u64 150]) (w.alloc (cT #[pT (some t)] 175)):=by kernel_rfl
theorem zKp(x:Int)(w:World):(ReflectliteValue.unpack (.iface 30 (A J x))).run tP w
  = .ok (.agg #[pT (some ⟨2,30,none⟩),pT (some ⟨w.heap.size,0,none⟩),.int .u64 130]) (w.alloc (cT #[A J x] 30)):=by kernel_rfl
theorem mkE(p:Addr)(w:World):(ReflectliteValue.mk 30 p ReflectliteValue.flagAddr).run tP w= .ok (.agg #[pT (some ⟨2,30,none⟩),pT (some p),.int .u64 386]) w:=kR
theorem typeP(a:Addr)(w:World):(ReflectliteValue.methodAny (ReflectliteValue.valueError "reflectlite.Value.Type" 0) (fun t _ _ _=>ReflectliteType.toType t) #[.agg #[pT (some ⟨2,175,none⟩),pT (some a),.int .u64 150]]).run tP w
  = .ok (.iface 231 (.agg #[pT (some ⟨2,175,none⟩)])) w:=by kernel_rfl
theorem kindP(w:World):((ReflectliteType.abiMethod fun t=>(fun a:Nat=>Value.int IntKind.u8 (a:Int))<$>Rtype.kind t) #[pT (some ⟨2,175,none⟩)]).run tP w= .ok (.int .u8 22) w:=kR
theorem kindE(w:World):((ReflectliteType.abiMethod fun t=>(fun a:Nat=>Value.int IntKind.u8 (a:Int))<$>Rtype.kind t) #[pT (some ⟨2,30,none⟩)]).run tP w= .ok (.int .u8 2) w:=kR
theorem elemP(w:World):(ReflectliteType.method ReflectliteType.elem #[.agg #[pT (some ⟨2,175,none⟩)]]).run tP w= .ok (.iface 231 (.agg #[pT (some ⟨2,30,none⟩)])) w:=kR
theorem implE(w:World):(ReflectliteType.relation "Implements" ReflectliteType.implements_ #[.agg #[pT (some ⟨2,30,none⟩)],.iface 231 (.agg #[pT (some ⟨2,26,none⟩)])]).run tP w= .ok (.bool true) w:=kR
theorem zPi(v:Value)(w:World):(ReflectliteType.typeOf #[.iface 30 v]).run tP w= .ok (.iface 231 (.agg #[pT (some ⟨2,30,none⟩)])) w:=kR
theorem zPj(v:Value)(w:World):(ReflectliteType.typeOf #[.iface 134 v]).run tP w= .ok (.iface 231 (.agg #[pT (some ⟨2,134,none⟩)])) w:=kR
theorem assE(w:World):(ReflectliteType.relation "AssignableTo" ReflectliteType.assignableTo #[.agg #[pT (some ⟨2,30,none⟩)],.iface 231 (.agg #[pT (some ⟨2,30,none⟩)])]).run tP w= .ok (.bool true) w:=kR
theorem assA(w:World):(ReflectliteType.relation "AssignableTo" ReflectliteType.assignableTo #[.agg #[pT (some ⟨2,134,none⟩)],.iface 231 (.agg #[pT (some ⟨2,30,none⟩)])]).run tP w= .ok (.bool false) w:=kR
theorem zWt(a:Addr)(w:World):(ReflectliteValue.parts (.agg #[pT (some ⟨2,175,none⟩),pT (some a),.int .u64 150])).run tP w= .ok (some (175,a,150)) w:=kR
theorem partsE(a:Addr)(w:World):(ReflectliteValue.parts (.agg #[pT (some ⟨2,30,none⟩),pT (some a),.int .u64 130])).run tP w= .ok (some (30,a,130)) w:=kR
theorem zY4(a:Addr)(w:World):(ReflectliteValue.parts (.agg #[pT (some ⟨2,30,none⟩),pT (some a),.int .u64 386])).run tP w= .ok (some (30,a,386)) w:=kR
theorem zZ9(w:World):(Rtype.directlyAssignable 30 30).run tP w= .ok true w:=kR
theorem zYx(w:World):(Rtype.elem? 175).run tP w= .ok (some 30) w:=kR
theorem zFx(z:Sem Value)(f:TypeId->Addr->Nat->Nat->Sem Value)(v:Value):
  ReflectliteValue.method z f #[v]=(do match<-ReflectliteValue.parts v with|none=>z|some (t,a,fl)=>f t a fl (fl%32)):=rfl
theorem zWw(a p:Addr)(W:World)(ha:W.cell? a=some (pT (some p))):
  (ReflectliteValue.method (ReflectliteValue.valueError "reflectlite.Value.IsNil" 0) ReflectliteValue.isNil #[.agg #[pT (some ⟨2,175,none⟩),pT (some a),.int .u64 150]]).run tP W= .ok (.bool false) W:=by
 rw[zFx];simp only[Sem.run_bind,zWt,Result.andThen];simp[ReflectliteValue.isNil,loadVar,isAgg,underlying,Tryz.underlying175,ha,Result.andThen]
theorem zX3(a p:Addr)(W:World)(ha:W.cell? a=some (pT (some p))):
  (ReflectliteValue.method (ReflectliteValue.valueError "reflectlite.Value.Elem" 0) ReflectliteValue.elem #[.agg #[pT (some ⟨2,175,none⟩),pT (some a),.int .u64 150]]).run tP W
   = .ok (.agg #[pT (some ⟨2,30,none⟩),pT (some p),.int .u64 386]) W:=by
 rw[zFx];simp only[Sem.run_bind,zWt,Result.andThen];simp[ReflectliteValue.elem,loadVar,isAgg,underlying,Tryz.underlying175,ha,Result.andThen,zYx,mkE]
theorem zSz{v x:Value}(h1:(v x:Value)->Sem Value)(h2:(x:Array Value)->Sem Value):ReflectliteValue.set.match_3 (fun _=>Sem Value) #[v,x] h1 h2=h1 v x:=rfl
theorem setE(ta b:Addr)(x:Int)(old:Value)(W:World)(hb:W.cell? b=some (A J x))(ht:W.cell? ta=some old)(hf:W.frozen? ta=false):
  (ReflectliteValue.set #[.agg #[pT (some ⟨2,30,none⟩),pT (some ta),.int .u64 386],.agg #[pT (some ⟨2,30,none⟩),pT (some b),.int .u64 130]]).run tP W
   = .ok (.tuple #[]) (W.setCell ta (A J x)):=by
 delta ReflectliteValue.set
 dsimp only;rw[zSz];simp only[Sem.run_bind,zY4,partsE,Result.andThen];simp[ReflectliteValue.flagAddr,loadVar,isAgg,underlying,Tryz.underlying30,hb,Result.andThen,zZ9,storeVar,Value.cells,storeCells,Addr.add];rw[run_store tP W ta _ _ kI];simp[ht,hf]
theorem mKind(h:Value)(w:World):(Go.method 420 231 (.agg #[h]) "Kind").run tP w= .ok ((170,h):FuncId×Value) w:=kR
theorem mElem(h:Value)(w:World):(Go.method 420 231 (.agg #[h]) "Elem").run tP w= .ok ((182,.agg #[h]):FuncId×Value) w:=kR
theorem mImpl(h:Value)(w:World):(Go.method 420 231 (.agg #[h]) "Implements").run tP w= .ok ((183,.agg #[h]):FuncId×Value) w:=kR
theorem mAss(h:Value)(w:World):(Go.method 420 231 (.agg #[h]) "AssignableTo").run tP w= .ok ((180,.agg #[h]):FuncId×Value) w:=kR
theorem noAsA(v:Value)(k:TypeId)(w:World):(Instr.typeAssert (.iface 134 v) k 236 true).run tP w= .ok (.tuple #[.nilIface,.bool false]) w:=run_typeAssert_lacksB Tryz.underlying236 kR kR v k w
theorem zXe(v:Value)(k:TypeId)(w:World):(Instr.typeAssert (.iface 134 v) k 137 true).run tP w= .ok (.tuple #[.iface 134 v,.bool true]) w:=run_typeAssert_hasB Tryz.underlying137 kR v k w
theorem zQn(v:Value)(k:TypeId)(w:World):(Instr.typeAssert (.iface 30 v) k 137 true).run tP w= .ok (.tuple #[.nilIface,.bool false]) w:=run_typeAssert_lacksB Tryz.underlying137 kR kR v k w
theorem zYh(a:Addr)(w:World):(Go.method 420 134 (pT (some a)) "Unwrap").run tP w= .ok ((175,pT (some a)):FuncId×Value) w:=kR
theorem zWg(x:Int)(t:Addr)(old:Value)(w:World)(hg:w.cell? ⟨1,0,none⟩=some (.iface 231 (.agg #[pT (some ⟨2,26,none⟩)])))(ht0:w.cell? t=some old)(hf0:w.frozen? t=false):
  Calls tP 54 #[.iface 30 (A J x),.iface 175 (pT (some t))] w fun ev w'=>ev= rT (.bool true)/\w'=((((w.alloc (cT #[pT (some t)] 175)).alloc (cT #[pT (some ⟨2,175,none⟩),pT (some ⟨w.heap.size,0,none⟩),.int .u64 150] 207)).alloc (cT #[pT (some ⟨2,175,none⟩),pT (some ⟨w.heap.size,0,none⟩),.int .u64 150] 207)).alloc (cT #[A J x] 30)).setCell t (A J x):=by
 have x0:= @run_callFunc_extern tP 72 _ (fun args=>ReflectliteValue.unpack (args.getD 0 (.tuple #[]))) Tryz.func72 kR kR kR kR
 have x1:= @run_callFunc_extern tP 73 _ (ReflectliteValue.methodAny (ReflectliteValue.valueError "reflectlite.Value.Type" 0) (fun t _ _ _=>ReflectliteType.toType t)) Tryz.func73 kR kR kR kR
 have x2:= @run_callFunc_extern tP 74 _ (ReflectliteValue.method (ReflectliteValue.valueError "reflectlite.Value.IsNil" 0) ReflectliteValue.isNil) Tryz.func74 kR kR kR kR
 have x3:= @run_callFunc_extern tP 170 _ (ReflectliteType.abiMethod fun t=>do pure (.int .u8 (<-Rtype.kind t))) Tryz.func170 kR kR kR kR;have x4:= @run_callFunc_extern tP 182 _ (ReflectliteType.method ReflectliteType.elem) Tryz.func182 kR kR kR kR
 have x5:= @run_callFunc_extern tP 183 _ (ReflectliteType.relation "Implements" ReflectliteType.implements_) Tryz.func183 kR kR kR kR
 have x6:= @run_callFunc_extern tP 101 _ ReflectliteType.typeOf Tryz.func101 kR kR kR kR
 have x7:= @run_callFunc_extern tP 180 _ (ReflectliteType.relation "AssignableTo" ReflectliteType.assignableTo) Tryz.func180 kR kR kR kR
 have x8:= @run_callFunc_extern tP 102 _ (ReflectliteValue.method (ReflectliteValue.valueError "reflectlite.Value.Elem" 0) ReflectliteValue.elem) Tryz.func102 kR kR kR kR
 have x9:= @run_callFunc_extern tP 103 _ ReflectliteValue.set Tryz.func103 kR kR kR kR;have q0:=zKo;have q1:=typeP;have q2:=kindP;have q3:=kindE;have q4:=elemP;have q5:=implE;have q6:=zPi;have q7:=zPj;have q8:=assE;have q9:=assA;have q10:=zKp;have q11:=mKind;have q12:=mElem;have q13:=mImpl;have q14:=mAss;have n8:=zWw ⟨w.heap.size,0,none⟩ t ((w.alloc (cT #[pT (some t)] 175)).alloc (cT #[pT (some ⟨2,175,none⟩),pT (some ⟨w.heap.size,0,none⟩),.int .u64 150] 207)) kS
 have hlt:1<w.heap.size:=by
  rcases Nat.lt_or_ge 1 w.heap.size with h|h
  ·exact h
  ·simp[World.cell?,Array.getElem?_eq_none h]at hg
 have hg2:((w.alloc (cT #[pT (some t)] 175)).alloc (cT #[pT (some ⟨2,175,none⟩),pT (some ⟨w.heap.size,0,none⟩),.int .u64 150] 207)).cell? ⟨1,0,none⟩=some (.iface 231 (.agg #[pT (some ⟨2,26,none⟩)])):=by
  rw[World.cell?_alloc_lt _ _ ⟨1,0,none⟩ kZ,World.cell?_alloc_lt _ _ ⟨1,0,none⟩ hlt];exact hg
 have htl:t.block<w.heap.size:=by
  rcases Nat.lt_or_ge t.block w.heap.size with h|h
  ·exact h
  ·simp[World.cell?,Array.getElem?_eq_none h]at ht0
 have el:=zX3 ⟨w.heap.size,0,none⟩ t (((w.alloc (cT #[pT (some t)] 175)).alloc (cT #[pT (some ⟨2,175,none⟩),pT (some ⟨w.heap.size,0,none⟩),.int .u64 150] 207)).alloc (cT #[pT (some ⟨2,175,none⟩),pT (some ⟨w.heap.size,0,none⟩),.int .u64 150] 207)) (by rw[World.cell?_alloc_lt _ _ ⟨w.heap.size,0,none⟩ kZ,World.cell?_alloc_lt _ _ ⟨w.heap.size,0,none⟩ kS,World.cell?_alloc_at _ _ _ _ kS];rfl)
 have st:=setE t ⟨w.heap.size+1+1+1,0,none⟩ x old ((((w.alloc (cT #[pT (some t)] 175)).alloc (cT #[pT (some ⟨2,175,none⟩),pT (some ⟨w.heap.size,0,none⟩),.int .u64 150] 207)).alloc (cT #[pT (some ⟨2,175,none⟩),pT (some ⟨w.heap.size,0,none⟩),.int .u64 150] 207)).alloc (cT #[A J x] 30))
  (by rw[World.cell?_alloc_at _ _ _ _ kS];rfl)
  (by rw[World.cell?_alloc_lt _ _ t kZ,World.cell?_alloc_lt _ _ t kZ,World.cell?_alloc_lt _ _ t kZ,World.cell?_alloc_lt _ _ t htl];exact ht0)
  (by rw[World.frozen?_alloc_old _ _ t kZ,World.frozen?_alloc_old _ _ t kZ,World.frozen?_alloc_old _ _ t kZ,World.frozen?_alloc_old _ _ t (Nat.ne_of_lt htl)];exact hf0)
 go_enter Tryz.func54,Tryz.ntmps54;go_wp2;refine wp_loop_rounds 1 ?_;rw[rounds_succ];go_wp2;go_ret;exact⟨rfl,rfl⟩
theorem as_at(x:Int)(p t:Addr)(old:Value)(w:World)(hp:w.cell? p=some (A J x))(hg:w.cell? ⟨1,0,none⟩=some (.iface 231 (.agg #[pT (some ⟨2,26,none⟩)])))(ht0:w.cell? t=some old)(hf0:w.frozen? t=false):
  Calls tP 54 #[.iface 134 (pT (some p)),.iface 175 (pT (some t))] w fun ev w'=>ev= rT (.bool true)/\w'=((((w.alloc (cT #[pT (some t)] 175)).alloc (cT #[pT (some ⟨2,175,none⟩),pT (some ⟨w.heap.size,0,none⟩),.int .u64 150] 207)).alloc (cT #[pT (some ⟨2,175,none⟩),pT (some ⟨w.heap.size,0,none⟩),.int .u64 150] 207)).alloc (cT #[A J x] 30)).setCell t (A J x):=by
 have x0:= @run_callFunc_extern tP 72 _ (fun args=>ReflectliteValue.unpack (args.getD 0 (.tuple #[]))) Tryz.func72 kR kR kR kR
 have x1:= @run_callFunc_extern tP 73 _ (ReflectliteValue.methodAny (ReflectliteValue.valueError "reflectlite.Value.Type" 0) (fun t _ _ _=>ReflectliteType.toType t)) Tryz.func73 kR kR kR kR
 have x2:= @run_callFunc_extern tP 74 _ (ReflectliteValue.method (ReflectliteValue.valueError "reflectlite.Value.IsNil" 0) ReflectliteValue.isNil) Tryz.func74 kR kR kR kR
 have x3:= @run_callFunc_extern tP 170 _ (ReflectliteType.abiMethod fun t=>do pure (.int .u8 (<-Rtype.kind t))) Tryz.func170 kR kR kR kR;have x4:= @run_callFunc_extern tP 182 _ (ReflectliteType.method ReflectliteType.elem) Tryz.func182 kR kR kR kR
 have x5:= @run_callFunc_extern tP 183 _ (ReflectliteType.relation "Implements" ReflectliteType.implements_) Tryz.func183 kR kR kR kR
 have x6:= @run_callFunc_extern tP 101 _ ReflectliteType.typeOf Tryz.func101 kR kR kR kR
 have x7:= @run_callFunc_extern tP 180 _ (ReflectliteType.relation "AssignableTo" ReflectliteType.assignableTo) Tryz.func180 kR kR kR kR
 have x8:= @run_callFunc_extern tP 102 _ (ReflectliteValue.method (ReflectliteValue.valueError "reflectlite.Value.Elem" 0) ReflectliteValue.elem) Tryz.func102 kR kR kR kR
 have x9:= @run_callFunc_extern tP 103 _ ReflectliteValue.set Tryz.func103 kR kR kR kR;have q0:=zKo;have q1:=typeP;have q2:=kindP;have q3:=kindE;have q4:=elemP;have q5:=implE;have q6:=zPi;have q7:=zPj;have q8:=assE;have q9:=assA;have q10:=zKp;have q11:=mKind;have q12:=mElem;have q13:=mImpl;have q14:=mAss;have n8:=zWw ⟨w.heap.size,0,none⟩ t ((w.alloc (cT #[pT (some t)] 175)).alloc (cT #[pT (some ⟨2,175,none⟩),pT (some ⟨w.heap.size,0,none⟩),.int .u64 150] 207)) kS
 have hlt:1<w.heap.size:=by
  rcases Nat.lt_or_ge 1 w.heap.size with h|h
  ·exact h
  ·simp[World.cell?,Array.getElem?_eq_none h]at hg
 have hg2:((w.alloc (cT #[pT (some t)] 175)).alloc (cT #[pT (some ⟨2,175,none⟩),pT (some ⟨w.heap.size,0,none⟩),.int .u64 150] 207)).cell? ⟨1,0,none⟩=some (.iface 231 (.agg #[pT (some ⟨2,26,none⟩)])):=by
  rw[World.cell?_alloc_lt _ _ ⟨1,0,none⟩ kZ,World.cell?_alloc_lt _ _ ⟨1,0,none⟩ hlt];exact hg
 have htl:t.block<w.heap.size:=by
  rcases Nat.lt_or_ge t.block w.heap.size with h|h
  ·exact h
  ·simp[World.cell?,Array.getElem?_eq_none h]at ht0
 have el:=zX3 ⟨w.heap.size,0,none⟩ t (((w.alloc (cT #[pT (some t)] 175)).alloc (cT #[pT (some ⟨2,175,none⟩),pT (some ⟨w.heap.size,0,none⟩),.int .u64 150] 207)).alloc (cT #[pT (some ⟨2,175,none⟩),pT (some ⟨w.heap.size,0,none⟩),.int .u64 150] 207)) (by rw[World.cell?_alloc_lt _ _ ⟨w.heap.size,0,none⟩ kZ,World.cell?_alloc_lt _ _ ⟨w.heap.size,0,none⟩ kS,World.cell?_alloc_at _ _ _ _ kS];rfl)
 have st:=setE t ⟨w.heap.size+1+1+1,0,none⟩ x old ((((w.alloc (cT #[pT (some t)] 175)).alloc (cT #[pT (some ⟨2,175,none⟩),pT (some ⟨w.heap.size,0,none⟩),.int .u64 150] 207)).alloc (cT #[pT (some ⟨2,175,none⟩),pT (some ⟨w.heap.size,0,none⟩),.int .u64 150] 207)).alloc (cT #[A J x] 30))
  (by rw[World.cell?_alloc_at _ _ _ _ kS];rfl)
  (by rw[World.cell?_alloc_lt _ _ t kZ,World.cell?_alloc_lt _ _ t kZ,World.cell?_alloc_lt _ _ t kZ,World.cell?_alloc_lt _ _ t htl];exact ht0)
  (by rw[World.frozen?_alloc_old _ _ t kZ,World.frozen?_alloc_old _ _ t kZ,World.frozen?_alloc_old _ _ t kZ,World.frozen?_alloc_old _ _ t (Nat.ne_of_lt htl)];exact hf0)
 have c1:=noAsA;have c2:=zXe;have c3:=zYh
 have hpl:p.block<w.heap.size:=by
  rcases Nat.lt_or_ge p.block w.heap.size with h|h
  ·exact h
  ·simp[World.cell?,Array.getElem?_eq_none h]at hp
 have hp3:(((w.alloc (cT #[pT (some t)] 175)).alloc (cT #[pT (some ⟨2,175,none⟩),pT (some ⟨w.heap.size,0,none⟩),.int .u64 150] 207)).alloc (cT #[pT (some ⟨2,175,none⟩),pT (some ⟨w.heap.size,0,none⟩),.int .u64 150] 207)).cell? p=some (A J x):=by
  rw[World.cell?_alloc_lt _ _ p kZ,World.cell?_alloc_lt _ _ p kZ,World.cell?_alloc_lt _ _ p hpl];exact hp
 go_enter Tryz.func54,Tryz.ntmps54;go_wp2;refine wp_loop_rounds 2 ?_;rw[rounds_succ];go_wp2;rw[rounds_succ];go_wp2;go_ret;exact⟨rfl,rfl⟩
def z1i(w:World):Prop:=w.cell? ⟨1,0,none⟩=some (.iface 231 (.agg #[pT (some ⟨2,26,none⟩)]))
theorem z1i.pos{w:World}(h:z1i w):1<w.heap.size:=by
 rcases Nat.lt_or_ge 1 w.heap.size with g|g
 ·exact g
 simp[z1i,World.cell?,Array.getElem?_eq_none g]at h
theorem z1i.later{w w':World}(h:z1i w)(hb:Below w.heap.size w w'):z1i w':=(hb.cell (p:=⟨1,0,none⟩) h.pos).trans h
theorem z1i.alloc{w:World}(h:z1i w)(o:Obj):z1i (w.alloc o):=h.later ((bF _ _).alloc (Nat.le_refl _) _)
theorem zCj{W w1:World}(hb:Below W.heap.size W w1):(∀b o,b<W.heap.size->w1.cell? ⟨b,o,none⟩=W.cell? ⟨b,o,none⟩)/\(∀b o,b<W.heap.size->w1.frozen? ⟨b,o,none⟩=W.frozen? ⟨b,o,none⟩):=
 ⟨fun b o h=>hb.cell (p:=⟨b,o,none⟩) h,fun b o h=>hb.frozen (p:=⟨b,o,none⟩) h⟩
theorem zT0(w:World):zS 43 #[.nilIface] w (A J 0):=by
 go_enter Tryz.func43,Tryz.ntmps43;go_wp2;go_ret;exact⟨rfl,rfl⟩
theorem z7i{w:World}{x:Int}{o1 o2 o3 o4:Obj}:(((((w.alloc (cT #[A J 0] 30)).alloc o1).alloc o2).alloc o3).alloc o4|>.setCell ⟨w.heap.size,0,none⟩ (A J x)).cell? ⟨w.heap.size,0,none⟩=some (A J x)/\
  Below w.heap.size w (((((w.alloc (cT #[A J 0] 30)).alloc o1).alloc o2).alloc o3).alloc o4|>.setCell ⟨w.heap.size,0,none⟩ (A J x)):=by
 constructor
 ·apply World.cell?_setCell_same (u:=A J 0)
  have h:=((((bF (w.alloc (cT #[A J 0] 30)).heap.size (w.alloc (cT #[A J 0] 30))).alloc (Nat.le_refl _) o1).alloc kS o2).alloc (by simp<;>omega) o3).alloc (by simp<;>omega) o4;rw[h.cell (p:=⟨w.heap.size,0,none⟩) kS];simp
 exact((((((bF _ _).alloc (Nat.le_refl _) _).alloc kS _).alloc kZ _).alloc kZ _).alloc kZ _).setCell (Nat.le_refl _) _
theorem zMm(x:Int)(w:World)(hg:z1i w):zR 43 #[.iface 30 (A J x)] w (A J x):=by
 have hg1:=hg.alloc (cT #[A J 0] 30);go_enter Tryz.func43,Tryz.ntmps43;go_wp2_with(go_at_call 54;refine(zWg x ⟨w.heap.size,0,none⟩ (A J 0) _ hg1 kS kS).mono ?_;rintro e w1 ⟨rfl,hw1⟩;obtain⟨t1,t2⟩:=z7i (w:=w) (x:=x);rw[<-hw1]at t1 t2;clear hw1);go_ret;exact⟨rfl,t2⟩
theorem zXg(x:Int)(p:Addr)(w:World)(hg:z1i w)(hp:w.cell? p=some (A J x))(hpl:p.block<w.heap.size):zR 43 #[.iface 134 (pT (some p))] w (A J x):=by
 have hg1:=hg.alloc (cT #[A J 0] 30);have hp1:(w.alloc (cT #[A J 0] 30)).cell? p=some (A J x):=(((bF _ _).alloc (Nat.le_refl _) _).cell hpl).trans hp;go_enter Tryz.func43,Tryz.ntmps43;go_wp2_with(go_at_call 54;refine(as_at x p ⟨w.heap.size,0,none⟩ (A J 0) _ hp1 hg1 kS kS).mono ?_;rintro e w1 ⟨rfl,hw1⟩;obtain⟨t1,t2⟩:=z7i (w:=w) (x:=x);rw[<-hw1]at t1 t2;clear hw1);go_ret;exact⟨rfl,t2⟩
theorem isAtE(v:Value)(w:World):(Instr.typeAssert (.iface 30 v) 26 134 true).run tP w= .ok (.tuple #[pT none,.bool false]) w:=kR
theorem isAtA(v:Value)(w:World):(Instr.typeAssert (.iface 134 v) 26 134 true).run tP w= .ok (.tuple #[v,.bool true]) w:=kR
theorem zQj(w:World):zS 30 #[.nilIface] w (.tuple #[A J 0,A J (-1)]):=by
 go_enter Tryz.func30,Tryz.ntmps30;go_wp2_with(go_at_call 43;refine(zT0 _).mono ?_;rintro e w1 ⟨rfl,rfl⟩);refine wp_loop_rounds 1 ?_;rw[rounds_succ];go_wp2;go_ret2
 exact⟨rfl,rfl⟩
theorem zIf(x:Int)(w:World)(hg:z1i w):zR 30 #[.iface 30 (A J x)] w (.tuple #[A J x,A J (-1)]):=by
 have c1:=zQn;have c2:=isAtE;go_enter Tryz.func30,Tryz.ntmps30;go_wp2_with(go_at_call 43;refine(zMm x _ hg).mono ?_;rintro e w1 ⟨rfl,hb1⟩);refine wp_loop_rounds 1 ?_;rw[rounds_succ];go_wp2;go_ret2
 exact⟨rfl,hb1⟩
theorem zU6(x y:Int)(p:Nat)(w:World)(hg:z1i w)(hp:w.cell? ⟨p,0,none⟩=some (A J x))(hq:w.cell? ⟨p,1,none⟩=some (A J y))(hpl:p<w.heap.size):
  zR 30 #[.iface 134 (pT (some ⟨p,0,none⟩))] w (.tuple #[A J x,A J y]):=by
 have c2:=isAtA;go_enter Tryz.func30,Tryz.ntmps30;go_wp2_with(go_at_call 43;refine(zXg x ⟨p,0,none⟩ _ hg hp hpl).mono ?_;rintro e w1 ⟨rfl,hb1⟩);have hq1:w1.cell? ⟨p,1,none⟩=some (A J y):=(hb1.cell (p:=⟨p,1,none⟩) hpl).trans hq;refine wp_loop_rounds 1 ?_;rw[rounds_succ];go_wp2;go_quiet (fail)
 go_wp2;go_ret2
 exact⟨rfl,below_drewN hb1 _⟩
theorem is_nil(w:World):zR 13 #[.nilIface,.agg #[A J 0,A J (-1)]] w (.bool true):=by
 go_enter Tryz.func13,Tryz.ntmps13;go_wp2_with(go_at_call 30;refine(zQj _).mono ?_;rintro e w1 ⟨rfl,rfl⟩);go_ret;exact⟨rfl,(bF _ _).alloc (Nat.le_refl _) _⟩
theorem zV3(x:Int)(w:World)(hg:z1i w):zR 13 #[.iface 30 (A J x),.agg #[A J x,A J (-1)]] w (.bool true):=by
 have hg1:=hg.alloc (cT #[A J x,A J (-1)] 75);go_enter Tryz.func13,Tryz.ntmps13;go_wp2_with(go_at_call 30;refine(zIf x _ hg1).mono ?_;rintro e w1 ⟨rfl,hb1⟩;obtain⟨hcl,hfr⟩:=zCj hb1);go_ret;exact⟨rfl,((bF _ _).alloc (Nat.le_refl _) _).trans (hb1.mono kS)⟩
theorem is_at(x y:Int)(p:Nat)(w:World)(hg:z1i w)(hp:w.cell? ⟨p,0,none⟩=some (A J x))(hq:w.cell? ⟨p,1,none⟩=some (A J y))(hpl:p<w.heap.size):
  zR 13 #[.iface 134 (pT (some ⟨p,0,none⟩)),.agg #[A J x,A J y]] w (.bool true):=by
 have hg1:=hg.alloc (cT #[A J x,A J y] 75);have hbl:Below w.heap.size w (w.alloc (cT #[A J x,A J y] 75)):=(bF _ _).alloc (Nat.le_refl _) _;have hp1:=(hbl.cell (p:=⟨p,0,none⟩) hpl).trans hp;have hq1:=(hbl.cell (p:=⟨p,1,none⟩) hpl).trans hq;go_enter Tryz.func13,Tryz.ntmps13;go_wp2_with(go_at_call 30;refine(zU6 x y p _ hg1 hp1 hq1 kZ).mono ?_;rintro e w1 ⟨rfl,hb1⟩;obtain⟨hcl,hfr⟩:=zCj hb1);go_ret;exact⟨rfl,((bF _ _).alloc (Nat.le_refl _) _).trans (hb1.mono kS)⟩
end
section
open Go.ChangeShapes Go.WideShapes Go.ChangeAt Go.RowKit
def z3p(n:Nat)(w:World)(I:Value)(er ip:Int):Prop:=
 (I= .nilIface/\er=0/\ip= -1)\/(I= .iface 30 (A J er)/\ip= -1/\er≠0)\/ ∃p,I= .iface 134 (pT (some ⟨p,0,none⟩))/\n<=p/\p<w.heap.size/\w.cell? ⟨p,0,none⟩=some (A J er)/\w.cell? ⟨p,1,none⟩=some (A J ip)/\er≠0
theorem z3p.on{n:Nat}{w w':World}{I:Value}{er ip:Int}(h:z3p n w I er ip)(hs:w.heap.size<=w'.heap.size)(hb: ∀j,n<=j->j<w.heap.size->w'.heap[j]?=w.heap[j]?):z3p n w' I er ip:=
 h.imp id fun h=>h.imp id fun⟨p,h1,h0,h2,h3,h4,h5⟩=>⟨p,h1,h0,Nat.lt_of_lt_of_le h2 hs,(World.cell?_of_block (a:=⟨p,0,none⟩) (hb p h0 h2)).trans h3,(World.cell?_of_block (a:=⟨p,1,none⟩) (hb p h0 h2)).trans h4,h5⟩
theorem z3p.low{n n':Nat}{w:World}{I:Value}{er ip:Int}(h:z3p n w I er ip)(hn:n'<=n):z3p n' w I er ip:=h.imp id fun h=>h.imp id fun⟨p,h1,h0,h2⟩=>⟨p,h1,Nat.le_trans hn h0,h2⟩
theorem z3p.later{n:Nat}{w w':World}{I:Value}{er ip:Int}(h:z3p n w I er ip)(hb:Below w.heap.size w w'):z3p n w' I er ip:=h.on hb.size fun j _ hj=>hb.block j hj
theorem z3p.is{n:Nat}{w:World}{I:Value}{er ip:Int}(h:z3p n w I er ip)(hg:z1i w):zR 13 #[I,.agg #[A J er,A J ip]] w (.bool true):=by
 rcases h with⟨rfl,rfl,rfl⟩|⟨rfl,rfl, -⟩|⟨p,rfl, -,h2,h3,h4, -⟩
 ·exact is_nil w
 ·exact zV3 er w hg
 exact is_at er ip p w hg h3 h4 h2
theorem zSu{w:World}{la:Option Addr}{cap:Nat}{xs:List St}{er ip:Int}(hl:LsAt w (.slice la xs.length cap) xs)(hF:VerF xs er ip):Calls tP 32 #[.slice la xs.length cap] w fun e w'=> ∃x y I,e= rT (.tuple #[.agg #[A J x,A J y],I])/\Below w.heap.size w w'/\z3p w.heap.size w' I er ip:=by
 obtain⟨a,cap',e,h0⟩:=hl.lies
 cases e;rcases hF with⟨k2,rfl,rfl⟩|⟨h1,h2,i,hi,hno,hf,rfl,rfl⟩|⟨h1,h2,h,⟨q,hX,rfl,her⟩|⟨rfl,rfl,es,hX⟩⟩
 ·exact(zFi la xs.length cap k2 w).mono fun e w' h=>⟨_,_,_,h.1,h.2,.inr (.inl ⟨rfl,rfl,by decide⟩)⟩
 all_goals obtain⟨bk,off,rfl,hbk,hst⟩:=h0.resolve_left kO
 ·exact(zFh bk off xs.length cap _ _ _ _ _ _ w h1 h2 hbk hst i hi hno hf).mono fun e w' ⟨p,he,hb,hp0,hpl,c0,c1⟩=>⟨_,_,_,he,hb,.inr (.inr ⟨p,rfl,Nat.le_of_lt hp0,hpl,c0,c1,hf⟩)⟩
 ·exact(zMe bk off xs.length cap _ _ _ _ _ _ w h1 h2 hbk hst h hl.nums er q hX).mono fun e w' ⟨p,he,hb,hp0,hpl,c0,c1⟩=>⟨_,_,_,he,hb,.inr (.inr ⟨p,rfl,Nat.le_of_lt hp0,hpl,c0,c1,by simpa using her⟩)⟩
 exact(zAb bk off xs.length cap _ _ _ _ _ _ w h1 h2 hbk hst h hl.nums es hX).mono fun e w' hh=>⟨_,_,_,hh.1,hh.2,.inl ⟨rfl,rfl,rfl⟩⟩
theorem VerF.lets{xs:List St}{er ip:Int}(h:VerF xs er ip):(er !=0)=false↔Lets xs:=by
 constructor
 ·intro e
  have e:er=0:=by simpa using e
  rcases h with⟨-,rfl, -⟩|⟨-, -,i, -, -,hf,rfl, -⟩|⟨h1,h2,h,⟨q, -, -,her⟩|⟨-, -,es,hX⟩⟩
  ·exact absurd e kD
  ·exact absurd e hf
  ·rw[e]at her;exact absurd her kD
  ·exact⟨h1,h2,h,es,hX⟩
 rintro⟨h1,h2,h3,es,hX⟩;rcases h with⟨k, -, -⟩|⟨-, -,i,hi, -,hf, -, -⟩|⟨-, -, -,⟨q,hY, -, -⟩|⟨rfl, -, -⟩⟩
 ·omega
 ·exact absurd (h3 i hi) hf
 ·rw[hX]at hY;cases hY
 rfl
end
section
open Go.ChangeShapes Go.WideShapes Go.ChangeAt Go.RowKit
set_option maxHeartbeats 40000000
set_option maxRecDepth 1000000
attribute [local simp] dwS z04
theorem zPb{w:World}{la:Option Addr}{cap:Nat}{xs:List St}{er ip:Int}(hl:LsAt w (.slice la xs.length cap) xs)(hF:VerF xs er ip)(he:(er !=0)=true):Calls tP 32 #[.slice la xs.length cap] w fun e w'=> ∃x y t u,e= rT (.tuple #[.agg #[A J x,A J y],.iface t u])/\Below w.heap.size w w'/\z3p w.heap.size w' (.iface t u) er ip:=
 (zSu hl hF).mono fun e w' ⟨x,y,I,h1,h2,h3⟩=>by
  rcases h3 with⟨-,e0, -⟩|⟨e1,h3⟩|⟨p,e1,h3⟩
  ·rw[e0]at he;exact absurd he kD
  ·subst e1;exact⟨x,y,_,_,h1,h2,.inr (.inl ⟨rfl,h3⟩)⟩
  ·subst e1;exact⟨x,y,_,_,h1,h2,.inr (.inr ⟨p,rfl,h3⟩)⟩
theorem zJd(B k:Nat)(hk:k<3)(d:Dsk)(la:Option Addr)(cap:Nat)(xs:List St)(rank er ip:Int)(w:World)(hl:LsAt w (.slice la xs.length cap) xs)(hF:VerF xs er ip)(he:(er !=0)=true):
  Calls tP 17 #[pT (some ⟨B,k*317,none⟩),.slice la xs.length cap,A J rank] w fun e w'=> ∃I,e= rT (.tuple #[A J 0,I])/\Below w.heap.size w w'/\z3p w.heap.size w' I er ip:=by
 have HV:Hid (∀W,Below w.heap.size w W->_):=fun W hW=>zPb (hl.later hW) hF he;obtain⟨N,hN⟩: ∃N,Hid (xs.length=N):=⟨_,rfl⟩;rw[hN.out]at HV⊢;clear hl hF he;go_in
 go_upto_region 1 with fail
 refine gnl (W:=w) kMm ?_;intro w1 hM;go_wp2_with(go_at_call 32;refine(HV.out _ hM.b).mono ?_;rintro e w2 ⟨x,y,t,u,rfl,hb2,hE⟩;replace hE:Hid _:=z3p.low hE hM.b.size;replace hM:=hM.later hb2;have hbw:=hM.b;have hsz:=hbw.size);exact bodyPost_ret (by simp[results,Tryz.results17,go_sem, *];try rfl) rfl ⟨_,rfl,kB,z3p.later hE.out kB⟩
theorem zI7(B k:Nat)(hk:k<3)(d:Dsk)(id:Int)(la:Option Addr)(cap:Nat)(xs:List St)(er ip:Int)(w:World)(hD:z0d w B d)(h8:(d.g k).ps.length<=8)(I:Nat)(HI:Hid (((d.g k).ps.findIdx fun p=>p.id==id)=I))(HN:Hid (I<(d.g k).ps.length))(hl:LsAt w (.slice la xs.length cap) xs)(hF:VerF xs er ip)(he:(er !=0)=true):
  Calls tP 20 #[pT (some ⟨B,k*317,none⟩),A J id,.slice la xs.length cap] w fun e w'=> ∃I,e= rT I/\Below w.heap.size w w'/\z3p w.heap.size w' I er ip:=by
 have HV:Hid (∀W,Below w.heap.size w W->_):=fun W hW=>zPb (hl.later hW) hF he;have HP:=z9r B k hk d id w hD h8 I HI HN;obtain⟨N,hN⟩: ∃N,Hid (xs.length=N):=⟨_,rfl⟩;rw[hN.out]at HV⊢;clear hl hF he;go_in
 go_wp2_with(first|(go_at_call 29;refine HP.mono ?_;rintro e w1 ⟨rfl,hb1⟩)|(go_at_call 32;refine(HV.out _ hb1).mono ?_;rintro e w2 ⟨x,y,t,u,rfl,hb2,hE⟩;replace hE:Hid _:=z3p.low hE hb1.size;have hbw:=hb1.trans (hb2.mono hb1.size);have hsz:=hbw.size));go_ret;exact⟨_,rfl,kB,z3p.later hE.out kB⟩
end
section
open Go.ChangeShapes Go.WideShapes Go.ChangeAt Go.RowKit
set_option maxHeartbeats 4000000
structure Hp (w0:World) (base B D:Nat) (d:Dsk) (r:Rdk) (M:Int) (w:World):Prop where
 ok:DOk w B d M
 ra:RAt w base D r
 eq:DkEq d r.dsk
 lf: ∀k,k<3->(d.g k).left<=0
 st:StD d
 bl:Below w0.heap.size w0 w
 lo:w0.heap.size<=B/\w0.heap.size<=base
theorem DOk.fr{w w':World}{base B:Nat}{d:Dsk}{M:Int}(h:DOk w B d M)(hf:Fr base w w'):DOk w' B d M:=
 ⟨FnAt.block h.at_ (hf.2.2 B _ _ _ h.at_ kD kD kD kD),fun k hk p hp=>z8p (h.ps k hk p hp) hf.1.size fun j cs fz hj=>⟨z1p hj h.at_ kD,hf.2.2 j cs _ fz hj kD kD kD kD⟩,h.few,h.evs,h.told,h.may0,h.may1,h.left0,h.left1,h.last0,h.last1,h.ran0,h.ran1⟩
theorem Kept.tag{w w':World}{B j:Nat}{d:Dsk}{cs:Array Value}{t:TypeId}{fz:Nat×Nat}(hk:Kept B w w')(hD:z0d w B d)(hj:w.heap[j]?=some (cT cs t fz))(ht:t≠72):w'.heap[j]?=w.heap[j]?:=
 hk.block j (Array.getElem?_eq_some_iff.1 hj).1 fun e=>z1p hj hD ht (Option.some.inj e)
theorem DOk.gate{w w':World}{B k:Nat}{d:Dsk}{M M':Int}{x:Gt}(h:DOk w B d M)(hM:M<=M')(hkp:Kept B w w')(hD:z0d w' B (d.put k x))(h1: ∀p,p∈x.ps->PgOk w' B p)(h2:x.ps.length<=8)(h3:x.evs.length<=20)(h4: ∀T,T∈x.evs-> ∀i,i<8->In64 (T i))(h5:1<=x.may)(h6:x.may<=1000)(h7: -1601<=x.left)(h8:x.left<=2000)(h9:0<=x.last)(h10:x.last<=M'):DOk w' B (d.put k x) M':=by
 refine⟨hD,?_,?_,?_,?_,?_,?_,?_,?_,?_,?_,h.ran0,Int.le_trans h.ran1 hM⟩<;>intro j hj<;>rw[z3t]<;>split
 ·exact h1
 ·exact fun p hp=>(h.ps j hj p hp).kept hkp
 ·exact h2
 ·exact h.few j hj
 ·exact h3
 ·exact h.evs j hj
 ·exact h4
 ·exact h.told j hj
 ·exact h5
 ·exact h.may0 j hj
 ·exact h6
 ·exact h.may1 j hj
 ·exact h7
 ·exact h.left0 j hj
 ·exact h8
 ·exact h.left1 j hj
 ·exact h9
 ·exact h.last0 j hj
 ·exact h10
 exact Int.le_trans (h.last1 j hj) hM
section
variable {w0 w w':World} {base B D k:Nat} {d d':Dsk} {r r':Rdk} {M M':Int}
theorem RAt.bs(h:RAt w base D r):base<=w.heap.size:=Nat.le_trans h.lo.1 (Nat.le_of_lt (Array.getElem?_eq_some_iff.1 h.box).1)
theorem RAt.kept(h:RAt w base D r)(hD:z0d w B d)(hk:Kept B w w'):RAt w' base D r:=
 h.tags hk.size fun j cs t fz hj ht=>hk.tag hD hj (by rcases ht with rfl|rfl|rfl|rfl|rfl|rfl<;>decide)
theorem Hp.later(h:Hp w0 base B D d r M w)(hb:Below w.heap.size w w'):Hp w0 base B D d r M w':=
 ⟨h.ok.later hb,h.ra.later hb,h.eq,h.lf,h.st,h.bl.trans (hb.mono h.bl.size),h.lo⟩
theorem Hp.mono(h:Hp w0 base B D d r M w)(hm:M<=M'):Hp w0 base B D d r M' w:=⟨h.ok.mono hm,h.ra,h.eq,h.lf,h.st,h.bl,h.lo⟩
theorem Hp.low(h:Hp w0 base B D d r M w)(hf:Fr base w w'):Below w0.heap.size w0 w':=
 ⟨hf.1.os.trans h.bl.os,hf.1.tape.trans h.bl.tape,hf.1.output.trans h.bl.output,Nat.le_trans h.bl.size hf.1.size,fun j hj=>(hf.2.1 j (by have:=h.lo.2;omega)).trans (h.bl.block j hj)⟩
theorem z6h{w1:World}(h:Below w0.heap.size w0 w)(hk:Kept B w w1)(hB:w0.heap.size<=B):Below w0.heap.size w0 w1:=
 ⟨hk.os.trans h.os,hk.tape.trans h.tape,hk.output.trans h.output,Nat.le_trans h.size hk.size,fun j hj=>(hk.block j (Nat.lt_of_lt_of_le hj h.size) fun e=>by have:=Option.some.inj e;omega).trans (h.block j hj)⟩
theorem Hp.step{w1 w2:World}(h:Hp w0 base B D d r M w)(hf:Fr base w w1)(hr:RAt w1 base D r')(hk:Kept B w1 w2)(hd:DOk w2 B d' M')(he:DkEq d' r'.dsk)(hl: ∀k,k<3->(d'.g k).left<=0)(hs:StD d'):Hp w0 base B D d' r' M' w2:=
 ⟨hd,hr.kept (h.ok.fr hf).at_ hk,he,hl,hs,z6h (h.low hf) hk h.lo.1,h.lo⟩
theorem Hp.len(h:Hp w0 base B D d r M w)(k:Nat):(r.zs k).length=(d.g k).ps.length:=by
 have e:=zLx (h.eq.g k).ps;rw[e];exact(List.length_map _).symm
theorem Hp.last(h:Hp w0 base B D d r M w)(k:Nat):r.last k=(d.g k).last:=(h.eq.g k).last.symm
theorem zF0(r:Rdk)(k:Nat)(v:Value)(last:Int)(zs:List Zp):(r.chn k v last zs).dsk=r.dsk.put k {r.dsk.g k with ps:=zs.map fun z=>z.2,last:=last}:=by
 unfold Dsk.put Rdk.dsk;congr 1;funext i
 by_cases c:i=k
 ·rw[if_pos c,c];unfold Rdk.gt Rdk.chn;dsimp only;rw[z31,z31]
 rw[if_neg c];unfold Rdk.gt Rdk.chn;dsimp only;rw[z34 _ _ c,z34 _ _ c]
theorem RAt.fresh(h:RAt w base D r)(hk:k<3){z:Zp}(hz:z∈r.zs k):z.1<w.heap.size:=(Array.getElem?_eq_some_iff.1 ((h.ch k hk).pgs z hz)).1
theorem zQk{S:List Nat}{c:Nat}{p:Pg}(h:PgOk w c p)(hK:KpS S w w')(hS: ∀x,x∈S-> ∃cs t,w.heap[x]?=some (cT cs t (0,0))/\t≠121)(hc: ∃cs t,w.heap[c]?=some (cT cs t (0,0))/\t≠121):PgOk w' c p:=
 z8p h hK.1.size fun j cs fz hj=>⟨by obtain⟨cs',t,h1,h2⟩:=hc;exact z1p hj h1 fun e=>h2 e.symm,hK.2 j (Array.getElem?_eq_some_iff.1 hj).1 fun e=>by obtain⟨cs',t,h1,h2⟩:=hS j e;exact z1p hj h1 (fun e=>h2 e.symm) rfl⟩
theorem zA3{ps qs:List Pg}(h:ps.map Pg.bare=qs.map Pg.bare){p:Pg}(hp:p∈ps): ∃q,q∈qs/\p.bare=q.bare:=by
 have:p.bare∈qs.map Pg.bare:=by rw[<-h];exact List.mem_map.2 ⟨p,hp,rfl⟩
 obtain⟨q,hq,e⟩:=List.mem_map.1 this;exact⟨q,hq,e.symm⟩
theorem zBo{p q:Pg}(h:p.bare=q.bare):p.id=q.id:=show p.bare.id=q.bare.id by rw[h]
theorem Hp.none(h:Hp w0 base B D d r M w)(k:Nat)(id:Int):(∀x,x∈r.zs k->(x.2.id==id)=false)↔((d.g k).ps.findIdx fun p=>p.id==id)=(d.g k).ps.length:=by
 constructor
 ·intro hn
  refine List.findIdx_eq_length.2 fun p hp=>?_;obtain⟨q,hq,e⟩:=zA3 (h.eq.g k).ps hp;obtain⟨z,hz,rfl⟩:=List.mem_map.1 hq;rw[zBo e];exact hn z hz
 intro hn x hx;obtain⟨p,hp,e⟩:=zA3 (h.eq.g k).ps.symm (List.mem_map.2 ⟨x,hx,rfl⟩);rw[zBo e];have:=List.findIdx_eq_length.1 hn p hp;simpa using this
def AttD(r:Rdk)(k:Nat)(xs:List St)(rank ER IR:Int)(r':Rdk)(id er ir:Int):Prop:=
 ((ER !=0)=true/\r'=r/\id=0/\er=ER/\ir=IR)\/((ER !=0)=false/\8<=(r.zs k).length/\r'=r/\id=0/\er=12/\ir= -1)\/
 ((ER !=0)=false/\(r.zs k).length<8/\id=r.last k+1/\er=0/\ir= -1/\ ∃q:Pg,q.bare=⟨r.last k+1,rank,.slice none 0 0,xs,fun _=>0⟩/\r'.dsk=r.dsk.put k {r.dsk.g k with ps:=((r.zs k).map fun z=>z.2).filter (fun p=>decide (p.rank<=rank))++[q]++((r.zs k).map fun z=>z.2).filter (fun p=>decide (rank<p.rank)),last:=r.last k+1})
theorem zEn(f:Pg->Bool)(zs:List Zp):(zs.filter fun z=>f z.2).map (fun z=>z.2)=(zs.map fun z=>z.2).filter f:=by
 rw[List.filter_map];rfl
theorem zZi{la:Option Addr}{cap:Nat}{xs:List St}{rank ER IR:Int}(h:Hp w0 base B D d r M w)(hM:M<=900000)(hk:k<3)(hl:LsAt w (.slice la xs.length cap) xs)(HF:VerF xs ER IR)(HV:VerT w (.slice la xs.length cap) ER IR):Calls tP 16 #[pT (some ⟨r.c k,0,none⟩),.slice la xs.length cap,A J rank] w fun e w'=> ∃r' id er ir,e= rT (.tuple #[A J id,.agg #[A J er,A J ir]])/\RAt w' base D r'/\Fr base w w'/\AttD r k xs rank ER IR r' id er ir:=by
 have hb:=h.ra.bs;have hc:=h.ra.ch k hk;have hL:=h.last k;refine(zN3 hc hb (by rw[h.len];exact h.ok.few k hk) (by rw[hL];exact h.ok.last0 k hk) (by rw[hL];have:=h.ok.last1 k hk;omega) la cap xs hl rank ER IR HV HF.lets.1).mono fun e w' q=>?_;rcases q with⟨q1,rfl,q3⟩|⟨q1,q2,rfl,q3⟩|⟨q1,q2,rfl,hK,v',b,sl,hbb,hC,hP⟩
 ·exact⟨r,_,_,_,rfl,h.ra.later q3,Fr.of q3 hb,.inl ⟨q1,rfl,rfl,rfl,rfl⟩⟩
 ·exact⟨r,_,_,_,rfl,h.ra.later q3,Fr.of q3 hb,.inr (.inl ⟨q1,q2,rfl,rfl,rfl,rfl⟩)⟩
 have hm: ∀z,z∈lowL rank (r.zs k)++[(b,(⟨r.last k+1,rank,sl,xs,fun _=>0⟩:Pg))]++z74 rank (r.zs k)->z=(b,⟨r.last k+1,rank,sl,xs,fun _=>0⟩)\/z∈r.zs k:=fun z hz=>by
  rcases List.mem_append.1 hz with hz|hz
  ·rcases List.mem_append.1 hz with hz|hz
   ·exact .inr (List.mem_filter.1 hz).1
   ·exact .inl (List.mem_singleton.1 hz)
  ·exact .inr (List.mem_filter.1 hz).1
 have hR:=h.ra.chain hk hb (fun x hx=> .inl (List.mem_singleton.1 hx)) hK hC (fun z hz=>by
  rcases hm z hz with rfl|hz
  ·exact hP
  ·exact zQk (h.ra.pg k hk z hz) hK (fun x hx=>by rw[List.mem_singleton.1 hx];exact⟨_,_,hc.box,by decide⟩) ⟨_,_,hc.box,by decide⟩) (by
  have hp:List.Perm (lowL rank (r.zs k)++[(b,(⟨r.last k+1,rank,sl,xs,fun _=>0⟩:Pg))]++z74 rank (r.zs k)) ((b,⟨r.last k+1,rank,sl,xs,fun _=>0⟩)::r.zs k):=by
   rw[List.append_assoc];refine List.perm_middle.trans (List.Perm.cons _ ?_)
   have e:(fun z:Zp=>decide (rank<z.2.rank))=fun z=>!decide (z.2.rank<=rank):=by
    funext z
    by_cases c:z.2.rank<=rank
    ·simp[c]
    ·simp[c];omega
   rw[z74,e];exact List.filter_append_perm _ _
  unfold z5h;refine((hp.map fun z:Zp=>z.1).nodup_iff).2 ?_;rw[List.map_cons,List.nodup_cons];refine⟨fun hx=>?_,h.ra.ap k hk⟩;obtain⟨z,hz,e⟩:=List.mem_map.1 hx;have:=h.ra.fresh hk hz;have e:z.1=b:=e;omega) (fun z hz=>by
  rcases hm z hz with rfl|hz
  ·exact .inr hbb
  ·exact .inl ⟨z,hz,rfl⟩)
 refine⟨_,_,_,_,rfl,hR.1,hR.2,.inr (.inr ⟨q1,q2,rfl,rfl,rfl,⟨r.last k+1,rank,sl,xs,fun _=>0⟩,rfl,?_⟩)⟩;rw[zF0,List.map_append,List.map_append,zEn fun p=>decide (p.rank<=rank),zEn fun p=>decide (rank<p.rank)];rfl
theorem zWe{w1:World}{la:Option Addr}{cap:Nat}{xs:List St}{rank ER IR id er ir:Int}(h:Hp w0 base B D d r M w)(hM0:0<=M)(hM:M<=900000)(hk:k<3)(hf:Fr base w w1)(hr:RAt w1 base D r')(hl:LsAt w1 (.slice la xs.length cap) xs)(hlB:1<=xs.length-> ∀a n c,(Value.slice la xs.length cap)= .slice (some a) n c->a.block≠B)(HF:VerF xs ER IR)(hA:AttD r k xs rank ER IR r' id er ir):Calls tP 17 #[pT (some ⟨B,k*317,none⟩),.slice la xs.length cap,A J rank] w1 fun e w2=> ∃I d',e= rT (.tuple #[A J id,I])/\z3p w1.heap.size w2 I er ir/\Hp w0 base B D d' r' (M+1) w2/\Kept B w1 w2:=by
 have ho:=h.ok.fr hf;rcases hA with⟨q1,rfl,rfl,rfl,rfl⟩|⟨q1,q2,rfl,rfl,rfl,rfl⟩|⟨q1,q2,rfl,rfl,rfl,q,hq,hd⟩
 ·exact(zJd B k hk d la cap xs rank _ _ w1 hl HF q1).mono fun e w2 ⟨I,h1,h2,h3⟩=>⟨I,d,h1,h3,h.step hf hr (z09 h2 B) ((ho.later h2).mono kO) h.eq h.lf h.st,z09 h2 B⟩
 ·exact(zGw B k 8 hk d _ xs rank w1 ho.at_ hl (HF.lets.1 q1) (by rw[<-h.len];have:=h.ok.few k hk;rw[<-h.len]at this;show _=_;omega)).mono fun e w2 ⟨h1,h2⟩=>⟨_,d,h1,.inr (.inl ⟨rfl,rfl,by decide⟩),h.step hf hr (z09 h2 B) ((ho.later h2).mono kO) h.eq h.lf h.st,z09 h2 B⟩
 have hL:=HF.lets.1 q1;have h7:(d.g k).ps.length<=7:=by rw[<-h.len];omega
 refine(zO2 B k (d.g k).ps.length hk d _ xs rank w1 ho.at_ rfl h7 hl hL ho.one (hlB hL.1) (by have:=h.ok.last0 k hk;omega) (by have:=h.ok.last1 k hk;omega)).mono fun e w2 ⟨h1,h2,p,p1,p2,p3,p4,p5,p6⟩=>?_;have hi:=zGu rank p (d.g k).ps (h.st k).rk;have hpq:p.bare=q.bare:=by rw[hq];unfold Pg.bare;rw[p1,p2,p3,p4,h.last]
 refine⟨_,_,by rw[h.last];exact h1,.inl ⟨rfl,rfl,rfl⟩,h.step hf hr h2 (ho.gate kO h2 p6 (fun x hx=>?_) ?_ (ho.evs k hk) (ho.told k hk) (ho.may0 k hk) (ho.may1 k hk) (ho.left0 k hk) (ho.left1 k hk) ?_ ?_) ?_ (fun j hj=>?_) (h.st.put ?_),h2⟩
 ·have hx:x∈Pg.ins (d.g k).ps _ p:=hx
  rw[hi]at hx;rcases List.mem_append.1 hx with hx|hx
  ·rcases List.mem_append.1 hx with hx|hx
   ·exact(ho.ps k hk x (List.mem_filter.1 hx).1).kept h2
   ·rw[List.mem_singleton.1 hx];exact p5
  ·exact(ho.ps k hk x (List.mem_filter.1 hx).1).kept h2
 ·show(Pg.ins (d.g k).ps _ p).length<=8
  rw[zD1 _ _ List.findIdx_le_length];omega
 ·show 0<=(d.g k).last+1;have:=h.ok.last0 k hk;omega
 ·show(d.g k).last+1<=M+1;have:=h.ok.last1 k hk;omega
 ·rw[hd]
  refine h.eq.put ⟨?_,by rw[h.last],(h.eq.g k).evs,(h.eq.g k).may,(h.eq.g k).left⟩;show(Pg.ins _ _ p).map Pg.bare=_;have he:=(h.eq.g k).ps;rw[hi,List.map_append,List.map_append,List.map_append,List.map_append,z7c (fun p=>decide (p.rank<=rank)) (fun _=>rfl) he,z7c (fun p=>decide (rank<p.rank)) (fun _=>rfl) he,List.map_singleton,List.map_singleton,hpq];rfl
 ·rw[z3t]
  split
  ·rename_i e;subst e;exact h.lf j hj
  ·exact h.lf j hj
 show z5j (Pg.ins _ _ p) _;rw[hi];exact(h.st k).ins p1 p2 (h.ok.last0 k hk)
end
end
section
open Go.ChangeShapes Go.WideShapes Go.ChangeAt Go.RowKit
set_option maxHeartbeats 4000000
section
variable {w0 w w1:World} {base B D k:Nat} {d d':Dsk} {r r':Rdk} {M M':Int} {er ir id ER IR:Int}
theorem Hp.step2{w2:World}(h:Hp w0 base B D d r M w)(hk:Kept B w w1)(hd:DOk w1 B d' M')(hf:Fr base w1 w2)(hr:RAt w2 base D r')(he:DkEq d' r'.dsk)(hl: ∀k,k<3->(d'.g k).left=(d.g k).left)(hs:StD d'):Hp w0 base B D d' r' M' w2:=
 have hb:=z6h h.bl hk h.lo.1;⟨hd.fr hf,hr,he,fun j hj=>by rw[hl j hj];exact h.lf j hj,hs,⟨hf.1.os.trans hb.os,hf.1.tape.trans hb.tape,hf.1.output.trans hb.output,Nat.le_trans hb.size hf.1.size,fun j hj=>(hf.2.1 j (by have:=h.lo.2;omega)).trans (hb.block j hj)⟩,h.lo⟩
theorem z9q{x:Gt}(d:Dsk)(hx:x.left=(d.g k).left): ∀j,j<3->((d.put k x).g j).left=(d.g j).left:=fun j _=>by
 rw[z3t];split
 ·rename_i e;rw[e];exact hx
 ·rfl
def DetP(d:Dsk)(k:Nat)(id:Int)(d':Dsk)(er:Int):Prop:=
 (((d.g k).ps.findIdx fun p=>p.id==id)=(d.g k).ps.length/\d'=d/\er=7)\/(((d.g k).ps.findIdx fun p=>p.id==id)<(d.g k).ps.length/\er=0/\d'=d.put k {d.g k with ps:=(d.g k).ps.filter fun p=>p.id !=id})
theorem zVm(h:Hp w0 base B D d r M w)(hk:k<3)(id:Int):Calls tP 18 #[pT (some ⟨B,k*317,none⟩),A J id] w fun e w1=> ∃I er d',e= rT I/\z3p w1.heap.size w1 I er (-1)/\Kept B w w1/\DOk w1 B d' M/\DetP d k id d' er:=by
 by_cases c:((d.g k).ps.findIdx fun p=>p.id==id)=(d.g k).ps.length
 ·exact(zJr B k hk d id w h.ok.at_ (h.ok.few k hk) c).mono fun e w1 ⟨h1,h2⟩=>⟨_,7,d,h1,.inr (.inl ⟨rfl,rfl,by decide⟩),z09 h2 B,h.ok.later h2,.inl ⟨c,rfl,rfl⟩⟩
 have c':((d.g k).ps.findIdx fun p=>p.id==id)<(d.g k).ps.length:=Nat.lt_of_le_of_ne List.findIdx_le_length c;refine(zRu B k hk d M id w h.ok _ rfl c').mono fun e w1 ⟨h1,h2,h3⟩=>⟨_,0,_,h1,.inl ⟨rfl,rfl,rfl⟩,h2,h.ok.gone hk h2 h3,.inr ⟨c',rfl,?_⟩⟩;rw[zD3 id _ (h.st k).nb]
theorem zZa(h:Hp w0 base B D d r M w)(hk:k<3)(hkp:Kept B w w1)(hd:DOk w1 B d' M)(hP:DetP d k id d' er):Calls tP 19 #[pT (some ⟨r.c k,0,none⟩),A J id] w1 fun e w2=>e= rT (A J er)/\ ∃r',Hp w0 base B D d' r' M w2/\Fr base w1 w2:=by
 have hr:=h.ra.kept h.ok.at_ hkp;have hc:=hr.ch k hk;have hn:=h.none k id;refine(zN2 hc hr.bs (by rw[h.len];exact h.ok.few k hk) id).mono fun e w2 q=>?_;rcases q with⟨q1,rfl,rfl⟩|⟨⟨z,hz,hid⟩,rfl,v',hC,hK⟩
 ·rcases hP with⟨-,rfl,rfl⟩|⟨p1, -⟩
  ·exact⟨rfl,r,h.step2 hkp hd (Fr.of (bF _ _) hr.bs) hr h.eq (fun _ _=>rfl) h.st,Fr.of (bF _ _) hr.bs⟩
  ·exact absurd (hn.1 q1) (Nat.ne_of_lt p1)
 rcases hP with⟨p1, -⟩|⟨p1,rfl,rfl⟩
 ·have:=hn.2 p1 z hz
  rw[hid]at this;exact absurd this kS
 have hR:=hr.chain hk hr.bs (fun x hx=> .inl (List.mem_singleton.1 hx)) hK hC (fun z hz=>zQk (hr.pg k hk z (List.mem_filter.1 hz).1) hK (fun x hx=>by rw[List.mem_singleton.1 hx];exact⟨_,_,hc.box,by decide⟩) ⟨_,_,hc.box,by decide⟩) ((hr.ap k hk).sublist (List.filter_sublist.map _)) (fun z hz=> .inl ⟨z,(List.mem_filter.1 hz).1,rfl⟩);refine⟨rfl,_,h.step2 hkp hd hR.2 hR.1 ?_ (z9q d rfl) (h.st.put ((h.st k).gone _)),hR.2⟩;rw[zF0];refine h.eq.put ⟨?_,(h.last k).symm,(h.eq.g k).evs,(h.eq.g k).may,(h.eq.g k).left⟩;show _=((z9e id (r.zs k)).map fun z=>z.2).map Pg.bare;rw[z9e,zEn fun p=>p.id !=id];exact z7c (fun p=>p.id !=id) (fun _=>rfl) (h.eq.g k).ps
theorem z6z: ∀{ps:List Pg}{x y:Pg},z2g ps->x∈ps->y∈ps->x.id=y.id->x=y
 |p::ps,x,y,h,hx,hy,e=>by
  have h':p.id∉ps.map (fun p=>p.id)/\z2g ps:=by simpa[z2g]using h
  rcases List.mem_cons.1 hx with ex|ex<;>rcases List.mem_cons.1 hy with ey|ey
  ·rw[ex,ey]
  ·exact absurd (List.mem_map.2 ⟨y,ey,by rw[<-e,ex]⟩) h'.1
  ·exact absurd (List.mem_map.2 ⟨x,ex,by rw[e,ey]⟩) h'.1
  ·exact z6z h'.2 ex ey e
theorem numbered_zs: ∀{zs:List Zp}{x y:Zp},z2g (zs.map fun z=>z.2)->x∈zs->y∈zs->x.2.id=y.2.id->x.1=y.1
 |z::zs,x,y,h,hx,hy,e=>by
  have h':z.2.id∉(zs.map fun z=>z.2).map (fun p=>p.id)/\z2g (zs.map fun z=>z.2):=by
   unfold z2g at h⊢;rw[List.map_cons,List.map_cons,List.nodup_cons]at h;exact h
  have no: ∀u,u∈zs->u.2.id≠z.2.id:=fun u hu e=>h'.1 (List.mem_map.2 ⟨u.2,List.mem_map.2 ⟨u,hu,rfl⟩,e⟩);rcases List.mem_cons.1 hx with ex|ex<;>rcases List.mem_cons.1 hy with ey|ey
  ·rw[ex,ey]
  ·exact absurd (by rw[<-e,ex]) (no y ey)
  ·exact absurd (by rw[e,ey]) (no x ex)
  ·exact numbered_zs h'.2 ex ey e
theorem zT8{α:Type}(l:List α)(i:Nat)(x:α)(h: ∀y,l[i]?=some y->x=y):l.set i x=l:=by
 apply List.ext_getElem?;intro j;rw[List.getElem?_set];split
 ·rename_i e
  subst e;split
  ·rename_i hl
   rw[List.getElem?_eq_getElem hl];rw[h _ (List.getElem?_eq_getElem hl)]
  ·rename_i hl
   rw[List.getElem?_eq_none (Nat.le_of_not_lt hl)]
 rfl
theorem zFr(id:Int)(q:Pg)(F:Pg->Pg): ∀ps:List Pg,z2g ps->(∀p,p∈ps->(p.id==id)=true->q.bare=F p)->(∀p,(p.id==id)=false->p.bare=F p)->(ps.set (ps.findIdx fun p=>p.id==id) q).map Pg.bare=ps.map F
 |[],_,_,_=>rfl
 |p::ps,h,h1,h2=>by
  have h':p.id∉ps.map (fun p=>p.id)/\z2g ps:=by simpa[z2g]using h
  rw[List.findIdx_cons]
  cases c:p.id==id
  ·show p.bare::(ps.set _ q).map Pg.bare=F p::ps.map F
   rw[h2 p c,zFr id q F ps h'.2 (fun x hx=>h1 x (mcO _ hx)) h2]
  ·show q.bare::ps.map Pg.bare=F p::ps.map F
   rw[h1 p mcS c];congr 1;refine List.map_congr_left fun x hx=>h2 x ?_;have: ¬x.id=id:=fun e=>h'.1 (List.mem_map.2 ⟨x,hx,e.trans (by simpa using c:p.id=id).symm⟩);simpa using this
def RepP(d:Dsk)(k:Nat)(id:Int)(xs:List St)(ER IR:Int)(d':Dsk)(er ir:Int):Prop:=
 (((d.g k).ps.findIdx fun p=>p.id==id)=(d.g k).ps.length/\d'=d/\er=7/\ir= -1)\/(((d.g k).ps.findIdx fun p=>p.id==id)<(d.g k).ps.length/\(ER !=0)=true/\d'=d/\er=ER/\ir=IR)\/
 (((d.g k).ps.findIdx fun p=>p.id==id)<(d.g k).ps.length/\(ER !=0)=false/\er=0/\ir= -1/\ ∃q:Pg,(∀p,p∈(d.g k).ps->(p.id==id)=true->q.bare=⟨p.id,p.rank,.slice none 0 0,xs,p.tab⟩)/\d'=d.put k {d.g k with ps:=(d.g k).ps.set ((d.g k).ps.findIdx fun p=>p.id==id) q})
theorem zTk{la:Option Addr}{cap:Nat}{xs:List St}(h:Hp w0 base B D d r M w)(hk:k<3)(id:Int)(hl:LsAt w (.slice la xs.length cap) xs)(HF:VerF xs ER IR):Calls tP 20 #[pT (some ⟨B,k*317,none⟩),A J id,.slice la xs.length cap] w fun e w1=> ∃I er ir d',e= rT I/\z3p w.heap.size w1 I er ir/\Kept B w w1/\DOk w1 B d' M/\RepP d k id xs ER IR d' er ir:=by
 by_cases c:((d.g k).ps.findIdx fun p=>p.id==id)=(d.g k).ps.length
 ·exact(zFy B k hk d id _ w h.ok.at_ (h.ok.few k hk) c).mono fun e w1 ⟨h1,h2⟩=>⟨_,7, -1,d,h1,.inr (.inl ⟨rfl,rfl,by decide⟩),z09 h2 B,h.ok.later h2,.inl ⟨c,rfl,rfl,rfl⟩⟩
 have cj:((d.g k).ps.findIdx fun p=>p.id==id)<(d.g k).ps.length:=Nat.lt_of_le_of_ne List.findIdx_le_length c
 cases hE:ER !=0
 ·refine(zN0 B k hk d M id _ xs w h.ok _ rfl cj hl (HF.lets.1 hE)).mono fun e w1 ⟨h1,h2,q,q1,q2,q3,q4,q5,q6⟩=>⟨_,0, -1,_,h1,.inl ⟨rfl,rfl,rfl⟩,h2,DOk.swap q5 h.ok hk h2 q6,.inr (.inr ⟨cj,hE,rfl,rfl,q,fun p hp hid=>?_,rfl⟩)⟩
  have e:(d.g k).ps.getD ((d.g k).ps.findIdx fun p=>p.id==id) pg0=p:=by
   have hx:(((d.g k).ps[(d.g k).ps.findIdx fun p=>p.id==id]'cj).id==id)=true:=List.findIdx_getElem (w:=cj);have hn:=(h.st k).nb;have hx':((d.g k).ps[(d.g k).ps.findIdx fun p=>p.id==id]'cj).id=id:=by simpa using hx
   have hi:((d.g k).ps[(d.g k).ps.findIdx fun p=>p.id==id]'cj).id=p.id:=hx'.trans (by simpa using hid:p.id=id).symm;rw[List.getD_eq_getElem?_getD,List.getElem?_eq_getElem cj];exact z6z hn (List.getElem_mem cj) hp hi
  rw[e]at q1 q2 q3;unfold Pg.bare;rw[q1,q2,q3,q4]
 exact(zI7 B k hk d id la cap xs ER IR w h.ok.at_ (h.ok.few k hk) _ rfl cj hl HF hE).mono fun e w1 ⟨I,h1,h2,h3⟩=>⟨I,ER,IR,d,h1,h3,z09 h2 B,h.ok.later h2,.inr (.inl ⟨cj,hE,rfl,rfl,rfl⟩)⟩
theorem zXy{la:Option Addr}{cap:Nat}{xs:List St}(h:Hp w0 base B D d r M w)(hk:k<3)(hkp:Kept B w w1)(hd:DOk w1 B d' M)(hl:LsAt w1 (.slice la xs.length cap) xs)(HF:VerF xs ER IR)(HV:VerT w1 (.slice la xs.length cap) ER IR)(hP:RepP d k id xs ER IR d' er ir):Calls tP 21 #[pT (some ⟨r.c k,0,none⟩),A J id,.slice la xs.length cap] w1 fun e w2=>e= rT (.agg #[A J er,A J ir])/\ ∃r',Hp w0 base B D d' r' M w2/\Fr base w1 w2/\ ∀j,w.heap.size<=j->j<w1.heap.size->w2.heap[j]?=w1.heap[j]?:=by
 have hr:=h.ra.kept h.ok.at_ hkp;have hc:=hr.ch k hk;have hn:=h.none k id;refine(zI1 hc hr.bs (by rw[h.len];exact h.ok.few k hk) (hr.ap k hk) (hr.pg k hk) la cap xs hl id ER IR HV HF.lets.1).mono fun e w2 q=>?_
 have no: ∀z,z∈r.zs k->z.2.id=id->((d.g k).ps.findIdx fun p=>p.id==id)=(d.g k).ps.length->False:=fun z hz hid p1=>by
  have:=hn.2 p1 z hz;rw[hid]at this;exact absurd this kS
 rcases q with⟨q1,rfl,q3⟩|⟨⟨z,hz,hid⟩,q1,rfl,q3⟩|⟨q1,rfl,z,sl,hz,hid,hK,hC,hPg⟩
 ·rcases hP with⟨-,rfl,rfl,rfl⟩|⟨p1, -⟩|⟨p1, -⟩
  ·exact⟨rfl,r,h.step2 hkp hd (Fr.of q3 hr.bs) (hr.later q3) h.eq (fun _ _=>rfl) h.st,Fr.of q3 hr.bs,fun j _ hj=>q3.block j hj⟩
  ·exact absurd (hn.1 q1) (Nat.ne_of_lt p1)
  ·exact absurd (hn.1 q1) (Nat.ne_of_lt p1)
 ·rcases hP with⟨p1, -⟩|⟨p1, -,rfl,rfl,rfl⟩|⟨p1,p2, -⟩
  ·exact(no z hz hid p1).elim
  ·exact⟨rfl,r,h.step2 hkp hd (Fr.of q3 hr.bs) (hr.later q3) h.eq (fun _ _=>rfl) h.st,Fr.of q3 hr.bs,fun j _ hj=>q3.block j hj⟩
  ·rw[q1]at p2;exact absurd p2 kD
 rcases hP with⟨p1, -⟩|⟨p1,p2, -⟩|⟨p1, -,rfl,rfl,q,hq,rfl⟩
 ·exact(no z hz hid p1).elim
 ·rw[q1]at p2;exact absurd p2 kD
 have hSt: ∀x,x∈ [z.1]-> ∃cs t,w1.heap[x]?=some (cT cs t (0,0))/\t≠121:=fun x hx=>by rw[List.mem_singleton.1 hx];exact⟨_,_,hc.pgs z hz,by decide⟩
 have hR:=hr.chain hk hr.bs (fun x hx=> .inr ⟨z,hz,(List.mem_singleton.1 hx).symm⟩) hK hC (fun y hy=>by
  obtain⟨x,hx,rfl⟩:=List.mem_map.1 hy
  by_cases e:x.1=z.1
  ·rw[if_pos e]
   obtain rfl:=(hr.ap k hk).eq hx hz e;exact hPg
  ·rw[if_neg e]
   exact zQk (hr.pg k hk x hx) hK hSt ⟨_,_,hc.box,by decide⟩) (by
  unfold z5h zPn;rw[List.map_map]
  have e:((fun z:Zp=>z.1)∘fun y:Zp=>if y.1=z.1 then(y.1,y.2.with sl xs)else y)=fun z=>z.1:=by
   funext y;show(if y.1=z.1 then(y.1,y.2.with sl xs)else y).1=y.1;split<;>rfl
  rw[e];exact hr.ap k hk) (fun y hy=>by
  obtain⟨x,hx,rfl⟩:=List.mem_map.1 hy;refine .inl ⟨x,hx,?_⟩;split<;>rfl)
 have hnb:z2g ((r.zs k).map fun z=>z.2):=by have e:((d.g k).ps.map fun p:Pg=>p.id)=((r.zs k).map fun z=>z.2).map fun p:Pg=>p.id:=zWd (h.eq.g k).ps;unfold z2g;rw[<-e];exact(h.st k).nb
 let G:Pg->Pg:=fun p=>if p.id==id then⟨p.id,p.rank,.slice none 0 0,xs,p.tab⟩else p
 have hG: ∀p:Pg,G p.bare=if(p.id==id)=true then⟨p.id,p.rank,.slice none 0 0,xs,p.tab⟩else p.bare:=fun p=>rfl;refine⟨rfl,_,h.step2 hkp hd hR.2 hR.1 ?_ (z9q d rfl) (h.st.put ((h.st k).same ?_)),hR.2,fun j h1 h2=>hK.2 j h2 fun e=>by have:=h.ra.fresh hk hz;rw[List.mem_singleton.1 e]at h1;omega⟩
 ·rw[zF0]
  refine h.eq.put ⟨?_,(h.last k).symm,(h.eq.g k).evs,(h.eq.g k).may,(h.eq.g k).left⟩;show((d.g k).ps.set _ q).map Pg.bare=((zPn z.1 sl xs (r.zs k)).map fun z=>z.2).map Pg.bare;rw[zFr id q (fun p=>G p.bare) _ (h.st k).nb (fun p hp hi=>by rw[hq p hp hi,hG,if_pos hi]) (fun p hi=>by rw[hG,hi];rfl)];have e1:(d.g k).ps.map (fun p=>G p.bare)=((d.g k).ps.map Pg.bare).map G:=by rw[List.map_map];rfl
  rw[e1,(h.eq.g k).ps];show(((r.zs k).map fun z=>z.2).map Pg.bare).map G=_;unfold zPn;rw[List.map_map,List.map_map,List.map_map,List.map_map];refine List.map_congr_left fun y hy=>?_;show G y.2.bare=(if y.1=z.1 then(y.1,y.2.with sl xs)else y).2.bare;rw[hG]
  by_cases e:y.1=z.1
  ·obtain rfl:=(hr.ap k hk).eq hy hz e
   rw[if_pos rfl,if_pos (by simpa using hid)];rfl
  ·rw[if_neg e,if_neg]
   intro hi;have hi:y.2.id=z.2.id:=by rw[hid];simpa using hi
   exact e (numbered_zs hnb hy hz hi)
 rw[List.map_set];refine zT8 _ _ _ fun u hu=>?_;rw[List.getElem?_map,List.getElem?_eq_getElem p1]at hu;obtain⟨p,hp⟩: ∃p,(d.g k).ps[(d.g k).ps.findIdx fun p=>p.id==id]?=some p:=⟨_,List.getElem?_eq_getElem p1⟩;have hu:(p.id,p.rank)=u:=by rw[List.getElem?_eq_getElem p1]at hp;rw[<-Option.some.inj hp];exact Option.some.inj hu
 rw[<-hu]
 have hx:(p.id==id)=true:=by
  have:=List.findIdx_getElem (w:=p1) (xs:=(d.g k).ps) (p:=fun p=>p.id==id);rw[List.getElem?_eq_getElem p1]at hp;rw[<-Option.some.inj hp];exact this
 have e:=hq p (List.mem_of_getElem? hp) hx;have e1:q.id=p.id:=show q.bare.id=_ by rw[e]
 have e2:q.rank=p.rank:=show q.bare.rank=_ by rw[e]
 rw[e1,e2]
end
end
section
open Go.ChangeShapes Go.WideShapes Go.ChangeAt Go.RowKit
set_option maxHeartbeats 40000000
set_option maxRecDepth 1000000
attribute [local simp] dwS z04
theorem z7o{w:World}{D k:Nat}{r:Rdk}(h:w.heap[D]?=some (cT (rdCs r) 46 (0,0)))(hk:k<3):w.cell? ⟨D,k,none⟩=some (pT (some ⟨r.c k,0,none⟩))/\w.cell? ⟨D,3+k,none⟩=some (r.l k)/\w.cell? ⟨D,6+k,none⟩=some (A J (r.may k))/\w.cell? ⟨D,9+k,none⟩=some (A J (r.left k))/\w.cell? ⟨D,12,none⟩=some (A J r.ran)/\(∀i,w.frozen? ⟨D,i,none⟩=false)/\D<w.heap.size:=by
 refine⟨?_,?_,?_,?_,?_,fun i=>by simp[World.frozen?,h],(Array.getElem?_eq_some_iff.1 h).1⟩
 all_goals rw[cell_of_row w D _ _ _ _ h]
 all_goals rcases(show k=0\/k=1\/k=2 by omega)with rfl|rfl|rfl<;>rfl
structure Rz (w:World) (base D g:Nat) (r:Rdk) (s:Sd) (vo vd:Value) (ds:List Dn) (wi:World):Prop where
 ra:RAt wi base D r
 fr:Fr base w wi
 dn:z9g wi w.heap.size vd ds
 sd:wi.heap[g]?=some (cT (z13 s vo) 96 (0,0))
 own:wi.ownsRow w.heap.size 2 1 vo s.out.length (s.out.map (Value.int .i64))
theorem Rz.set{w wi:World}{base D g i:Nat}{r r2:Rdk}{s:Sd}{x vo vd:Value}{ds:List Dn}(h:Rz w base D g r s vo vd ds wi)(h2:RAt (wi.setCell ⟨D,i,none⟩ x) base D r2/\Fr base wi (wi.setCell ⟨D,i,none⟩ x)):Rz w base D g r2 s vo vd ds (wi.setCell ⟨D,i,none⟩ x):=by
 have o: ∀{j:Nat}{cs:Array Value}{t:TypeId}{fz:Nat×Nat},wi.heap[j]?=some (cT cs t fz)->t≠46->(wi.setCell ⟨D,i,none⟩ x).heap[j]?=wi.heap[j]?:=fun hj ht=>heap_setCell_other _ _ _ _ (z1p hj h.ra.box ht);exact⟨h2.1,h.fr.trans h2.2,h.dn.on fun k cs t hk ht=>o hk (by rcases ht with rfl|rfl<;>decide),(o h.sd kD).trans h.sd,z5i h.own fun g cs hg _=>o hg kD⟩
theorem Rz.later{w wi wj:World}{base D g:Nat}{r:Rdk}{s:Sd}{vo vd:Value}{ds:List Dn}(h:Rz w base D g r s vo vd ds wi)(hb:Below wi.heap.size wi wj):Rz w base D g r s vo vd ds wj:=
 have o: ∀{j:Nat}{z:Obj},wi.heap[j]?=some z->wj.heap[j]?=wi.heap[j]?:=fun hj=>hb.block _ (Array.getElem?_eq_some_iff.1 hj).1;⟨h.ra.later hb,h.fr.trans (Fr.of hb (Nat.le_trans h.ra.lo.1 (Nat.le_of_lt (Array.getElem?_eq_some_iff.1 h.ra.box).1))),h.dn.on fun k cs t hk _=>o hk,(o h.sd).trans h.sd,z5i h.own fun g cs hg _=>o hg⟩
def zXo:Option Value->Nat
 |some (.slice _ n _)=>n
 |_=>0
structure ROut (w:World) (base D:Nat) (r:Rdk) (M:Int) (vd:Value) (j:Nat) (wr:World):Prop where
 ex: ∃r' ds,RAt wr base D r'/\r'.dsk=(z0z j r.dsk).1/\DP r'.dsk (M+20*j)/\Fr base w wr/\z9g wr w.heap.size vd ds/\(ds.map fun x=>(x.k,x.s))=(z0z j r.dsk).2/\ds.length<=20*j/\ ∀i,j<=i->i<3->r'.left i<=0
structure RIn (w:World) (base D k:Nat) (r1:Rdk) (M:Int) (ds0:List Dn) (vd:Value) (lv:Int) (f:Nat) (wi:World):Prop where
 ex: ∃r' ds,RAt wi base D r'/\z2b k 20 (z41 r1.dsk k) []=z2b k f (r'.lf k lv).dsk (ds.map Dn.s)/\DP (r'.lf k lv).dsk (M+20-f)/\(r'.evs k).length<=f/\Fr base w wi/\z9g wi w.heap.size vd (ds0++ds)/\(∀x,x∈ds->x.k=k)/\ds.length+f<=20
theorem dsk_lf(r:Rdk)(k:Nat)(y x:Int):(r.lf k x).dsk=(r.lf k y).dsk.put k {(r.lf k y).dsk.g k with left:=x}:=by
 unfold Dsk.put Rdk.dsk;congr 1;funext i
 by_cases c:i=k
 ·rw[if_pos c,c];unfold Rdk.gt Rdk.lf;dsimp only;rw[z31]
 rw[if_neg c];unfold Rdk.gt Rdk.lf;dsimp only;rw[z34 _ _ c,z34 _ _ c]
theorem ROut.next{w wi:World}{base D k f:Nat}{r r1 r':Rdk}{M lv x:Int}{ds0 ds:List Dn}{vd:Value}(hk:k<3)(h1:r1.dsk=(z0z k r.dsk).1)(hm:(ds0.map fun x=>(x.k,x.s))=(z0z k r.dsk).2)(hl:ds0.length<=20*k)(hz: ∀i,k<=i->i<3->r1.left i<=0)(hR:RAt wi base D r')(hg:z2b k 20 (z41 r1.dsk k) []=((r'.lf k lv).dsk,ds.map Dn.s))(hd:DP (r'.lf k lv).dsk (M+20*k+20-f))(hF:Fr base w wi)(hD:z9g wi w.heap.size vd (ds0++ds))(hs: ∀x,x∈ds->x.k=k)(hn:ds.length+f<=20)(hx:x=if(r'.evs k).length=0 then min lv 0 else lv):ROut w base D r M vd (k+1) (wi.setCell ⟨D,9+k,none⟩ (A J x)):=by
 obtain⟨g1,g2⟩:=hR.lf hk x;have o: ∀{j:Nat}{cs:Array Value}{t:TypeId}{fz:Nat×Nat},wi.heap[j]?=some (cT cs t fz)->t≠46->(wi.setCell ⟨D,9+k,none⟩ (A J x)).heap[j]?=wi.heap[j]?:=fun hj ht=>heap_setCell_other _ _ _ _ (z1p hj hR.box ht);have hlv:=hd.left k hk;have e1:((r'.lf k lv).dsk.g k).left=lv:=z31 _ _ _;rw[e1]at hlv;have hx2: -1601<=x/\x<=2000:=by rw[hx];split<;>omega
 have hR1:(z0z (k+1) r.dsk)=((r'.lf k x).dsk,(ds0++ds).map fun x=>(x.k,x.s)):=by
  rw[z0z, <-h1];unfold z2a;rw[hg];dsimp only;rw[zYy, <-hx, <-hm,List.map_append,List.map_map];congr 2;exact(List.map_congr_left fun y hy=>by show(k,y.s)=(y.k,y.s);rw[hs y hy])
 refine⟨r'.lf k x,ds0++ds,g1,by rw[hR1],?_,hF.trans g2,hD.on fun j cs t hj ht=>o hj (by rcases ht with rfl|rfl<;>decide),by rw[hR1],by rw[List.length_append];omega,fun i h2 h3=>?_⟩
 ·rw[dsk_lf r' k lv x]
  have:=hd.put (k:=k) hx2.1 hx2.2;exact⟨this.few,this.ids,this.evs,this.told,this.may,this.left,this.ran.1,Int.le_trans this.ran.2 kO⟩
 have e:(r'.lf k lv).dsk.g i=r1.dsk.g i:=by
  have:=z4m k 20 (z41 r1.dsk k) [] i kO;rw[hg]at this;rw[this];show(r1.dsk.put k _).g i=_;rw[z3t,if_neg kO]
 have e2:up r'.left k lv i=r1.left i:=congrArg Gt.left e;show up r'.left k x i<=0;rw[z34 _ _ kO]at e2⊢;rw[e2];exact hz i kO h3
theorem Tryz.infoRsd:(Tryz.prog.info? 96).map (·.size)=some 4:=kR
theorem Tryz.infoRdn:(Tryz.prog.info? 98).map (fun i=>(i.zero,i.size,i.bytes))=some (some (.agg #[A J 0,A J 0,A J 0,.slice none 0 0,A J 0]),5,56):=kR
theorem zPx{w:World}{b n:Nat}{e:TypeId}{z:Nat}{vo:Value}{xs:List Value}{s:Sd}(h:w.ownsRow b e z vo n xs):(z13 s vo).all (·.oneCell')=true:=by
 rcases rowShape h with⟨rfl, -⟩|⟨g,cap,rfl⟩<;>kernel_rfl
theorem zXj{o:Oper}{u:Act}(V:World)(b off m cap:Nat)(x:Operand)(ho:o.op= .slice 41 x (some (.const (A J 1))) none none)(hx:u.eval x= .slice (some ⟨b,off,none⟩) (m+1) (cap+1))(hm:m<=cap):(execOp u.eval o).run tP V= .ok (.value (.slice (some ⟨b,if cap=0 then off else off+8,none⟩) m cap)) V:=by
 have e1:u.eval (.const (A J 1))=A J 1:=rfl;have s1:(1:Int)<=(m:Int)+1:=kO;have s2:(m:Int)+1<=(cap:Int)+1:=kO
 by_cases c:cap=0
 ·rw[if_pos c]
  subst c;obtain rfl:m=0:=by omega
  clear s1 s2 hm;unfold execOp;simp only[ho,hx,e1,Option.map_some,Option.map_none];go_simp;try rfl
 rw[if_neg c];unfold execOp;simp only[ho,hx,e1,Option.map_some,Option.map_none];go_simp;try omega
theorem z7w{o:Oper}{u:Act}{x:Operand}{W:World}{b off:Nat}{T:Nat->Int}(hW:W.rangeAt b off (z06 T).toList)(ho:o.op= .load 34 x)(hx:u.eval x= pT (some ⟨b,off,none⟩)):(execOp u.eval o).run tP W= .ok (.value (.agg (z06 T))) W:=by
 have hl:=run_loadVar_mid (P:=tP) W b off 34 (z06 T).toList _ hW Tryz.underlying34 rfl kR;unfold execOp;simp only[ho,hx,Instr.loadAt,Instr.sureAddr,Sem.run_bind,Sem.run_pure,Result.andThen_ok,hl]
theorem rsame{V W:World}{D b off:Nat}{r:Rdk}{T:Nat->Int}(hS:V.heap[D]?=some (cT (rdCs r) 46 (0,0))/\V.rangeAt b off (z06 T).toList)(ht: ∃cs,V.heap[b]?=some (cT cs 34 (0,0)))(tg: ∀(j:Nat) cs t fz,V.heap[j]?=some (Obj.cells cs t fz)->t≠59->W.heap[j]?=V.heap[j]?):W.heap[D]?=some (cT (rdCs r) 46 (0,0))/\W.rangeAt b off (z06 T).toList:=
 ⟨(tg _ _ _ _ hS.1 kD).trans hS.1,fun j u hu=>by
  obtain⟨cs,hc⟩:=ht;exact(World.cell?_of_block (a:=⟨b,off+j,none⟩) (tg _ _ _ _ hc kD)).trans (hS.2 j u hu)⟩
theorem zVh{w:World}{b n k:Nat}{e:TypeId}{z:Nat}{vo:Value}{xs:List Value}{s:Sd}(h:w.ownsRow b e z vo n xs): ∀u,u∈ [Value.int .i64 (k:Int),A J s.bf,A J s.num,vo,A J s.steps]->u.oneCell'=true:=by
 intro u hu;simp only[List.mem_cons,List.not_mem_nil,or_false]at hu;rcases hu with rfl|rfl|rfl|rfl|rfl
 ·rfl
 ·rfl
 ·rfl
 ·rcases rowShape h with⟨rfl, -⟩|⟨g,cap,rfl⟩<;>rfl
 rfl
theorem rz_at{w wr wf:World}{base D g b off:Nat}{r r2:Rdk}{s:Sd}{vo vd v:Value}{ds:List Dn}{evs:List (Nat->Int)}{T:Nat->Int}(hR:RAt wf base D r2)(hF:Fr base wr wf)(hF0:Fr base w wr)(hdn:z9g wf w.heap.size vd ds)(hg:wf.heap[g]?=some (cT (z13 sd0 (.slice none 0 0)) 96 (0,0)))(hgl:wr.heap.size<=g)(hbs:base<=wr.heap.size)(hO:wf.ownsRow w.heap.size 2 1 vo s.out.length (s.out.map (Value.int .i64)))(hE:EvAt wf base v evs)(hS:wf.heap[D]?=some (cT (rdCs r) 46 (0,0))/\wf.rangeAt b off (z06 T).toList)(htb: ∃cs,wf.heap[b]?=some (cT cs 34 (0,0))):Rz w base D g r2 s vo vd ds (wf.setRow g (z13 s vo))/\EvAt (wf.setRow g (z13 s vo)) base v evs/\(wf.setRow g (z13 s vo)).heap[D]?=some (cT (rdCs r) 46 (0,0))/\(wf.setRow g (z13 s vo)).rangeAt b off (z06 T).toList:=by
 have o: ∀{j:Nat}{cs:Array Value}{t:TypeId}{fz:Nat×Nat},wf.heap[j]?=some (cT cs t fz)->t≠96->(wf.setRow g (z13 s vo)).heap[j]?=wf.heap[j]?:=fun hj ht=>setRow_other _ _ _ _ (z1p hj hg ht);have hb:=z14 hF.1 (Nat.zero_le g) (z13 s vo);have hs:wf.heap.size<=(wf.setRow g (z13 s vo)).heap.size:=by simp[World.setRow]
 refine⟨⟨hR.tags hs fun j cs t fz hj ht=>o hj (by rcases ht with rfl|rfl|rfl|rfl|rfl|rfl<;>decide),hF0.trans ⟨hb,fun j hj=>(setRow_other _ _ _ _ kO).trans (hF.2.1 j hj),fun j cs t fz hj h1 h2 h3 h4=>(setRow_other _ _ _ _ (by have:=(Array.getElem?_eq_some_iff.1 hj).1;omega)).trans (hF.2.2 j cs t fz hj h1 h2 h3 h4)⟩,hdn.on fun j cs t hj ht=>o hj (by rcases ht with rfl|rfl<;>decide),setRow_heap wf g _ _ _ _ hg,z5i hO fun j cs hj _=>o hj kD⟩,hE.on fun j cs _ hj=>o hj kD,(o hS.1 kD).trans hS.1,fun j u hu=>?_⟩;obtain⟨cs,hc⟩:=htb;exact(World.cell?_of_block (a:=⟨b,off+j,none⟩) (o hc kD)).trans (hS.2 j u hu)
theorem zXs{V:World}{base D k:Nat}{r:Rdk}{M:Int}{T:Nat->Int}{lv:Int}(h:RAt V base D r)(hk:k<3)(hM:M<=1000000)(hd:DP (r.lf k lv).dsk M)(hT:T∈r.evs k){s:Sd}(hs:(z05 T r.ran ((r.zs k).map fun z=>z.2) sd0).1=s):Calls tP 27 #[pT (some ⟨r.c k,0,none⟩),.agg (z06 T),A J r.ran] V fun e w'=> ∃v,e= rT v/\ ∃vo ys,v= .agg (z13 s vo)/\ys.map (fun z=>z.2)=(z05 T r.ran ((r.zs k).map fun z=>z.2) sd0).2/\RAt w' base D (r.chn k (r.v k) (r.last k) ys)/\Fr base V w'/\w'.ownsRow V.heap.size 2 1 vo s.out.length (s.out.map (Value.int .i64))/\ ∀(j:Nat) cs t fz,V.heap[j]?=some (Obj.cells cs t fz)->t≠59->w'.heap[j]?=V.heap[j]?:=by
 have hc:=h.ch k hk;have hb:base<=V.heap.size:=Nat.le_trans h.lo.1 (Nat.le_of_lt (Array.getElem?_eq_some_iff.1 h.box).1);have h8:(r.zs k).length<=8:=by have:=hd.few k hk;rwa[show((r.lf k lv).dsk.g k).ps=(r.zs k).map fun z=>z.2 from rfl,List.length_map]at this
 refine(zG9 hc hb h8 (h.ap k hk) (h.pg k hk) (fun z hz=>hd.ids k hk z.2 (List.mem_map.2 ⟨z,hz,rfl⟩)) T r.ran (hd.told k hk T hT) ⟨by have:=hd.ran.1;have e:(r.lf k lv).dsk.ran=r.ran:=rfl;omega,by have:=hd.ran.2;have e:(r.lf k lv).dsk.ran=r.ran:=rfl;omega⟩).mono fun e w' ⟨vo,h1,h2,h3,ys,y1,y2,y3,y4⟩=>?_;rw[hs]at h1 h2
 have hfs: ∀z,z∈ys-> ∃y,y∈r.zs k/\y.1=z.1:=fun z hz=>by
  have:z.1∈(r.zs k).map fun z=>z.1:=by rw[<-y1];exact List.mem_map.2 ⟨z,hz,rfl⟩
  exact List.mem_map.1 this
 have hR:=h.chain hk hb (fun x hx=>by obtain⟨z,hz,rfl⟩:=List.mem_map.1 hx;exact .inr ⟨z,hz,rfl⟩) h3 y3 y4 (by unfold z5h;rw[y1];exact h.ap k hk) fun z hz=> .inl (hfs z hz)
 exact⟨_,h1,vo,ys,rfl,y2,hR.1,hR.2,h2,fun j cs t fz hj ht=>h3.2 j (Array.getElem?_eq_some_iff.1 hj).1 fun e=>by
  obtain⟨z,hz,rfl⟩:=List.mem_map.1 e;exact z1p hj (hc.pgs z hz) ht rfl⟩
theorem zQ1{w:World}{base D:Nat}{r:Rdk}{M:Int}(h:RAt w base D r)(hb:base<=w.heap.size)(hd:DP r.dsk M)(hM0:0<=M)(hM:M<=900000)(hz: ∀k,k<3->r.left k<=0):Calls tP 23 #[pT (some ⟨D,0,none⟩)] w fun e w'=> ∃vd ds r',e= rT vd/\RAt w' base D r'/\Fr base w w'/\r'.dsk=(z0z 3 r.dsk).1/\z9g w' w.heap.size vd ds/\(ds.map fun x=>(x.k,x.s))=(z0z 3 r.dsk).2/\ds.length<=60:=by
 have HO:Hid (ROut w base D r M (.slice none 0 0) 0 w):=⟨r,[],h,rfl,by simpa using hd,Fr.of (bF _ _) hb,⟨World.ownsRow_nil _ _ _ _,fun x hx=>absurd hx List.not_mem_nil⟩,rfl,Nat.zero_le _,fun i _ hi=>hz i hi⟩;clear h hd hz;replace hb:Hid _:=hb
 go_in
 go_upto_region 3 with fail
 go_loopw [3,7] (fun vd jv wr=> ∃j:Nat,jv=A J j/\j<=3/\Hid (ROut w base D r M vd j wr)) (fun _ jv _=>3-(intOf jv).toNat)
 case atStart=>exact⟨0,rfl,by decide,HO.out⟩
 case round=>
  obtain⟨k,rfl,hk3,H⟩:=hrel;clear HO;have k0:(0:Int)<=(k:Int):=kO
  by_cases hk:k<3
  ·have k1:(k:Int)<3:=kO
   obtain⟨r1,ds0,hR,hr1,hdp,hF,hdn,hmap,hlen,hlz⟩:=H.out.ex;have hl1:=hlz k (Nat.le_refl _) hk;have hl2:=(hdp.left k hk).1;have hmy:=hdp.may k hk;have hl2: -1601<=r1.left k:=hl2;have hmy:1<=r1.may k/\r1.may k<=1000:=hmy;have e6:IntKind.i64.wrap (r1.left k+r1.may k)=r1.left k+r1.may k:=by rw[IntWalk.i64_left,z08 kO kO]
   have HI:Hid (RIn w base D k r1 (M+20*k) ds0 u3 (r1.left k+r1.may k) 20 wr.drew):=by
    refine⟨r1,[],hR.later ((bF wr.heap.size wr).drew),by rw[zX4];rfl,?_,hdp.evs k hk,hF.trans (Fr.of ((bF wr.heap.size wr).drew) (Nat.le_trans hR.lo.1 (Nat.le_of_lt (Array.getElem?_eq_some_iff.1 hR.box).1))),by rw[List.append_nil];exact hdn.on fun _ _ _ _ _=>rfl,fun x hx=>absurd hx List.not_mem_nil,by decide⟩;rw[<-zX4];have:=hdp.put (k:=k) (x:=r1.left k+r1.may k) kO kO;exact⟨this.few,this.ids,this.evs,this.told,this.may,this.left,this.ran.1,Int.le_trans this.ran.2 kO⟩
   have HQ:Hid (r1.dsk=(z0z k r.dsk).1/\(ds0.map fun x=>(x.k,x.s))=(z0z k r.dsk).2/\ds0.length<=20*k/\ ∀i,k<=i->i<3->r1.left i<=0):=⟨hr1,hmap,hlen,hlz⟩;have hbx:=hR.box;clear hr1 hmap hlen hlz hdp hF hdn hR H;go_upto_region 5 with fail
   refine wp_region_held_drew (S:=fun U=>U.heap[D]?=some (cT (rdCs r1) 46 (0,0))) kR hbx fun _=>?_;change wpAnyH _ _ _ _ _ 14 (Array.replicate 14 false) _ _
   have hS:wr.drew.heap[D]?=some (cT (rdCs r1) 46 (0,0)):=hbx;clear hbx;generalize wr.drew=w5 at*;refine kTk 0 10 (pT (some ⟨D,0,none⟩)) ?_;refine kTk 1 11 (A J (k:Int)) ?_;refine kTk 2 12 (pT (some ⟨D,0,none⟩)) ?_;refine kTk 3 13 (pT (some ⟨D,9,none⟩)) ?_;refine kTk 4 14 (pT (some ⟨D,9+k,none⟩)) ?_;refine tkH (i:=5) (some 15) (A J (r1.left k)) rfl rfl (fun V hV=>by have F:=z7o (hV) hk;go_simp) hS ?_;simp only[pS];refine kTk 6 16 (pT (some ⟨D,0,none⟩)) ?_;refine kTk 7 17 (A J (k:Int)) ?_;refine kTk 8 18 (pT (some ⟨D,0,none⟩)) ?_;refine kTk 9 19 (pT (some ⟨D,6,none⟩)) ?_;refine kTk 10 20 (pT (some ⟨D,6+k,none⟩)) ?_;refine tkH (i:=11) (some 21) (A J (r1.may k)) rfl rfl (fun V hV=>by have F:=z7o (hV) hk;go_simp) hS ?_;simp only[pS];refine kTk 12 22 (A J (r1.left k+r1.may k)) ?_;refine kTk 13 5 (A J (r1.left k+r1.may k)) ?_;refine wpAnyH_done kR ?_ _;clear hS e6 hl1 hl2 hmy;generalize r1.left k+r1.may k=lv0 at*;go_wp2_with fail;go_loopw [3,5] (fun vd lv wi=> ∃(f:Nat)(l:Int),f<=20/\lv=A J l/\Hid (RIn w base D k r1 (M+20*k) ds0 vd l f wi)) (fun _ _ wi=>zXo (wi.cell? ⟨D,3+k,none⟩))
   case atStart=>exact⟨20,_,Nat.le_refl _,rfl,HI.out⟩
   case round=>
    clear HI;obtain⟨f,lv,hf20,rfl,HIN⟩:=hrel;obtain⟨r',ds,hR,hgo,hdp,hev,hF,hdn,hks,hdl⟩:=HIN.out.ex;have hlv: -1601<=lv/\lv<=2000:=by have:=hdp.left k hk;rwa[show((r'.lf k lv).dsk.g k).left=lv from z31 _ _ _]at this
    obtain⟨sa,sc,el⟩:=z9x (hR.ev k hk);obtain⟨n,hn⟩: ∃n,Hid ((r'.evs k).length=n):=⟨_,rfl⟩;rw[hn.out]at el hev;have F:=z7o hR.box hk;rw[el]at F
    by_cases hst:n=0\/lv<=0
    ·have HX:Hid (∀x,x=(if n=0 then min lv 0 else lv)->ROut w base D r M u3 (k+1) (wr.setCell ⟨D,9+k,none⟩ (A J x))):=fun x hx=>by
      have hg:=zB5 k f (r'.lf k lv).dsk (ds.map Dn.s) (by
       rcases hst with h|h
       ·exact .inl (List.eq_nil_of_length_eq_zero (hn.out.trans h))
       ·exact .inr (by rw[show((r'.lf k lv).dsk.g k).left=lv from z31 _ _ _];exact h))
      exact ROut.next hk HQ.out.1 HQ.out.2.1 HQ.out.2.2.1 HQ.out.2.2.2 hR (hgo.trans hg) hdp hF hdn hks hdl (by rw[hn.out];exact hx)
     clear hgo hdp hdn hks hdl hR HQ HIN hF;rcases dc (0<lv)with⟨hp,dp⟩|⟨hp,dp⟩
     ·obtain rfl:n=0:=by omega
      have HX:=HX.out 0 kZ;replace HX:Hid _:=HX
      clear hst hev hlv;go_wp2_with fail;go_roundw
      case rel=>exact⟨k+1,by go_num,kO,HX⟩
      case measure=>simp[intOf];omega
     ·by_cases hn0:n=0
      ·subst hn0
       have HX:=HX.out lv kZ;replace HX:Hid _:=HX
       clear hst hev hlv;go_wp2_with fail;go_roundw
       case rel=>exact⟨k+1,by go_num,kO,HX⟩
       case measure=>simp[intOf];omega
      ·have HX:=HX.out lv (by rw[if_neg hn0])
       replace HX:Hid _:=HX
       have tn:((n:Int)==0)=false:=kZ;clear hst hev hlv;go_wp2_with fail;go_roundw
       case rel=>exact⟨k+1,by go_num,kO,HX⟩
       case measure=>simp[intOf];omega
    ·obtain⟨T,rest,he⟩: ∃T rest,r'.evs k=T::rest:=by
      cases hh:r'.evs k with
      |nil=>have:=hn.out;rw[hh]at this;exact absurd (Or.inl this.symm) hst
      |cons T rest=>exact⟨T,rest,rfl⟩
     have hlp:0<lv:=kO;obtain⟨m,HMm⟩: ∃m,Hid (rest.length=m):=⟨_,rfl⟩;have hE:=hR.ev k hk;rw[he]at hE;obtain⟨b,off,cap,hl,hmc,hbl,htg,hrg,hpop⟩:=hE.pop;rw[HMm.out]at hl hmc hpop;obtain rfl:n=m+1:=by have:=hn.out;rw[he,List.length_cons,HMm.out]at this;omega
     rw[hl]at el;replace el:Hid (r'.l k= .slice (some ⟨b,off,none⟩) (m+1) (cap+1)):=hl
     clear F;have F:=z7o hR.box hk;rw[el.out]at F;have dp:decide (0<lv)=true:=by simpa using hlp
     have tm:decide (0<(m:Int)+1)=true:=decide_eq_true kO;go_upto_region 7 with fail
     obtain⟨s,HS⟩: ∃s,Hid ((z05 T r'.ran ((r'.zs k).map fun z=>z.2) sd0).1=s):=⟨_,rfl⟩;have hbs:base<=wr.heap.size:=Nat.le_trans hR.lo.1 (Nat.le_of_lt (Array.getElem?_eq_some_iff.1 hR.box).1);have hwr:=hF.1.size;have HC:Hid (∀V:World,Below wr.heap.size wr V->_):=fun V hV=>zXs (hR.later hV) hk (M:=M+20*k+20-f) kO hdp (T:=T) (by rw[he];exact mcS) HS.out;go_cut [6] (fun s6 wx=> ∃g vo,s6= pT (some ⟨g,0,none⟩)/\Hid (∃ys:List Zp,ys.map (fun z=>z.2)=(z05 T r'.ran ((r'.zs k).map fun z=>z.2) sd0).2/\EvAt wx base (.slice (some ⟨b,if cap=0 then off else off+8,none⟩) m cap) rest/\Rz w base D g (r'.chn k (r'.v k) (r'.last k) ys) s vo u3 (ds0++ds) wx))
     case first=>
      have hS:wr.drew.heap[D]?=some (cT (rdCs r') 46 (0,0))/\wr.drew.rangeAt b off (z06 T).toList:=⟨hR.box,hrg⟩;refine wp_region_held_drew (S:=fun U=>U.heap[D]?=some (cT (rdCs r') 46 (0,0))/\U.rangeAt b off (z06 T).toList) kR hS fun _=>?_;change wpAnyH _ _ _ _ _ 21 (Array.replicate 21 false) _ _
      have hB0:Below wr.heap.size wr wr.drew:=(bF _ _).drew;generalize wr.drew=wd at*;clear F dp tm;refine kTk 0 35 (pT (some ⟨D,0,none⟩)) ?_;refine kTk 1 36 (A J (k:Int)) ?_;refine kTk 2 37 (pT (some ⟨D,0,none⟩)) ?_;refine kTk 3 38 (pT (some ⟨D,0,none⟩)) ?_;refine kTk 4 39 (pT (some ⟨D,k,none⟩)) ?_;refine tkH (i:=5) (some 40) (pT (some ⟨r'.c k,0,none⟩)) rfl rfl (fun V hV=>by have F:=z7o (hV.1) hk;rw[el.out]at F;go_simp) hS ?_;simp only[pS];refine kTk 6 41 (pT (some ⟨D,0,none⟩)) ?_;refine kTk 7 42 (A J (k:Int)) ?_;refine kTk 8 43 (pT (some ⟨D,0,none⟩)) ?_;refine kTk 9 44 (pT (some ⟨D,3,none⟩)) ?_;refine kTk 10 45 (pT (some ⟨D,3+k,none⟩)) ?_;refine tkH (i:=11) (some 46) (.slice (some ⟨b,off,none⟩) (m+1) (cap+1)) rfl rfl (fun V hV=>by have F:=z7o (hV.1) hk;rw[el.out]at F;go_simp) hS ?_;simp only[pS];refine kTk 12 47 (pT (some ⟨b,off,none⟩)) ?_;refine tkH (i:=13) (some 48) (.agg (z06 T)) rfl rfl (fun V hV=>z7w hV.2 rfl rfl) hS ?_;simp only[pS];refine kTk 14 49 (pT (some ⟨D,0,none⟩)) ?_;refine kTk 15 50 (pT (some ⟨D,0,none⟩)) ?_;refine kTk 16 51 (pT (some ⟨D,12,none⟩)) ?_;refine tkH (i:=17) (some 52) (A J r'.ran) rfl rfl (fun V hV=>by have F:=z7o (hV.1) hk;rw[el.out]at F;go_simp) hS ?_;simp only[pS];have aS: ∀{W W':World},Below W.heap.size W W'->b<W.heap.size->(W.heap[D]?=some (cT (rdCs r') 46 (0,0))/\W.rangeAt b off (z06 T).toList)->(W'.heap[D]?=some (cT (rdCs r') 46 (0,0))/\W'.rangeAt b off (z06 T).toList):=fun hb hbW h=>⟨(hb.block _ (Array.getElem?_eq_some_iff.1 h.1).1).trans h.1,fun j u hu=>(hb.cell (p:=⟨b,off+j,none⟩) hbW).trans (h.2 j u hu)⟩;have hbd:b<wd.heap.size:=Nat.lt_of_lt_of_le hbl hB0.size;have htd:=htg.imp fun cs h=>(hB0.block b hbl).trans h;refine wpAnyH_ready (rs:=[18,19]) kR kS ?_;refine z3h (some 53) 27 #[pT (some ⟨r'.c k,0,none⟩),.agg (z06 T),A J r'.ran] rfl rfl kI kG ?goA (z24 (some 6) (pT (some ⟨wd.heap.size,0,none⟩)) (wd.alloc (cT (z13 sd0 (.slice none 0 0)) 96)) rfl rfl kI kG (aS (kAl _ _) hbd hS) ?goB AllReadyH.nil)
      case' goA=>
       refine(HC.out wd hB0).mono ?_;rintro e we ⟨_,rfl,vo,ys,rfl,hy,hRe,hFe,hOe,tge⟩;have hSe:=rsame hS htd tge;refine⟨_,rfl,hSe,?_⟩;simp only[pS];refine wpAnyH_ready (rs:=[19]) kR kS ?_;refine z24 (some 6) (pT (some ⟨we.heap.size,0,none⟩)) (we.alloc (cT (z13 sd0 (.slice none 0 0)) 96)) rfl rfl kI kG (aS (kAl _ _) (Nat.lt_of_lt_of_le hbd hFe.1.size) hSe) ?_ AllReadyH.nil;have hgn:=heap_alloc_new we (cT (z13 sd0 (.slice none 0 0)) 96);have hA:=kAl we (cT (z13 sd0 (.slice none 0 0)) 96);have hgl:wr.heap.size<=we.heap.size:=Nat.le_trans hB0.size hFe.1.size;have HZ:=rz_at (vo:=vo) (s:=s) (hRe.later hA) (((Fr.of hB0 hbs).trans hFe).trans (Fr.of hA (Nat.le_trans hbs hgl))) hF (hdn.on fun j cs t hj ht=>((hA.block j (Nat.lt_of_lt_of_le (Array.getElem?_eq_some_iff.1 hj).1 hgl)).trans (tge j cs t _ ((hB0.block j (Array.getElem?_eq_some_iff.1 hj).1).trans hj) (by rcases ht with rfl|rfl<;>decide))).trans (hB0.block j (Array.getElem?_eq_some_iff.1 hj).1)) hgn hgl hbs (z42 (z5i hOe fun j cs hj _=>hA.block j (Array.getElem?_eq_some_iff.1 hj).1) (Nat.le_trans hwr hB0.size)) (((hpop.on fun j cs _ hj=>hB0.block j (Array.getElem?_eq_some_iff.1 hj).1).on fun j cs _ hj=>tge j cs _ _ hj kD).on fun j cs _ hj=>hA.block j (Array.getElem?_eq_some_iff.1 hj).1) (aS hA (Nat.lt_of_lt_of_le hbd hFe.1.size) hSe) (htd.imp fun cs h=>(hA.block b (Nat.lt_of_lt_of_le hbd hFe.1.size)).trans ((tge _ _ _ _ h kD).trans h));have hO':=z5i hOe fun j cs hj _=>hA.block j (Array.getElem?_eq_some_iff.1 hj).1;clear hRe hFe hOe tge hSe hA;generalize we.alloc (cT (z13 sd0 (.slice none 0 0)) 96)=wf at*;generalize we.heap.size=g at*
      case' goB=>
       have hgn:=heap_alloc_new wd (cT (z13 sd0 (.slice none 0 0)) 96);have hA:=kAl wd (cT (z13 sd0 (.slice none 0 0)) 96);have hgl:wr.heap.size<=wd.heap.size:=hB0.size;have hS1:=aS hA hbd hS;have hB1:=hB0.trans (hA.mono hB0.size);have htd1:=htd.imp fun cs h=>(hA.block b hbd).trans h;clear hA htd;generalize wd.alloc (cT (z13 sd0 (.slice none 0 0)) 96)=we at*;generalize wd.heap.size=g at*;simp only[pS];refine wpAnyH_ready (rs:=[18]) kR kS ?_;refine z3h (some 53) 27 #[pT (some ⟨r'.c k,0,none⟩),.agg (z06 T),A J r'.ran] rfl rfl kI kG ?_ AllReadyH.nil;refine(HC.out we hB1).mono ?_;rintro e wf ⟨_,rfl,vo,ys,rfl,hy,hRe,hFe,hOe,tge⟩;have hSe:=rsame hS1 htd1 tge;refine⟨_,rfl,hSe,?_⟩;have HZ:=rz_at (vo:=vo) (s:=s) hRe ((Fr.of hB1 hbs).trans hFe) hF (hdn.on fun j cs t hj ht=>(tge j cs t _ ((hB1.block j (Array.getElem?_eq_some_iff.1 hj).1).trans hj) (by rcases ht with rfl|rfl<;>decide)).trans (hB1.block j (Array.getElem?_eq_some_iff.1 hj).1)) ((tge _ _ _ _ hgn kD).trans hgn) hgl hbs (z42 hOe (Nat.le_trans hwr hB1.size)) ((hpop.on fun j cs _ hj=>hB1.block j (Array.getElem?_eq_some_iff.1 hj).1).on fun j cs _ hj=>tge j cs _ _ hj kD) hSe (htd1.imp fun cs h=>(tge _ _ _ _ h kD).trans h);have hO':=hOe;replace hgn:=(tge _ _ _ _ hgn kD).trans hgn
       clear hRe hFe hOe tge hSe hS1
      all_goals
       simp only[pS];refine wpAnyH_ready (rs:=[20]) kR kS ?_;refine z3b (wf.setRow g (z13 s vo)) rfl rfl kI (z5p wf _ _ g _ (z13 sd0 (.slice none 0 0)) _ rfl rfl rfl Tryz.infoRsd hgn rfl (zPx hO')) HZ.2.2 ?_ AllReadyH.nil;simp only[pS];refine wpAnyH_done kR ?_ _;go_wp2_with fail;go_meet;exact⟨g,vo,rfl,ys,hy,HZ.2.1,HZ.1⟩
     case rest=>
      obtain⟨g,vo,rfl,HW⟩:=hcut;obtain⟨ys,hy,hev2,hz⟩:=HW.out;clear HW F HC
      have hsm:(0<=s.steps/\s.steps<=1600)/\Hid ((z05 T r'.ran ((r'.zs k).map fun z=>z.2) sd0).2.length=((r'.zs k).map fun z=>z.2).length):=by
       obtain⟨c1,c2,c3, -, -⟩:=z3m (w:=wr) (B:=r'.c k) (T:=T) (time:=r'.ran) (hdp.told k hk T (by show T∈r'.evs k;rw[he];exact mcS)) ⟨by have:=hdp.ran.1;have e:(r'.lf k lv).dsk.ran=r'.ran:=rfl;omega,by have:=hdp.ran.2;have e:(r'.lf k lv).dsk.ran=r'.ran:=rfl;omega⟩ ((r'.zs k).map fun z=>z.2) sd0 (fun p hp=>by obtain⟨z,hz,rfl⟩:=List.mem_map.1 hp;exact hR.pg k hk z hz);rw[HS.out]at c2 c3;have h8:=hdp.few k hk;have h8:((r'.zs k).map fun z=>z.2).length<=8:=h8;have c2':0<=s.steps:=c2;have c3':s.steps<=0+200*(((r'.zs k).map fun z=>z.2).length:Int):=c3;exact⟨by omega,c1⟩
      obtain⟨hsm,HCL⟩:=hsm;have hrn:0<=r'.ran/\r'.ran<=1000000:=by have:=hdp.ran;have e:(r'.lf k lv).dsk.ran=r'.ran:=rfl;omega
      obtain⟨r2,HR2⟩: ∃r2,Hid (r'.chn k (r'.v k) (r'.last k) ys=r2):=⟨_,rfl⟩;have el2:Hid (r2.l k= .slice (some ⟨b,off,none⟩) (m+1) (cap+1)):=by rw[<-HR2.out];exact el
      have rn2:Hid (r2.ran=r'.ran):=by rw[<-HR2.out];rfl
      rw[HR2.out]at hz;go_upto_region 8 with fail
      refine wp_region_held_drew (S:=fun U=>True) kR trivial fun _=>?_;change wpAnyH _ _ _ _ _ 13 (Array.replicate 13 false) _ _
      have hz8:=hz.later ((bF wc.heap.size wc).drew);have hev8:EvAt wc.drew base (.slice (some ⟨b,if cap=0 then off else off+8,none⟩) m cap) rest:=hev2.on fun _ _ _ _=>rfl;clear hz hev2;generalize wc.drew=w8 at*;have hS:True:=trivial;refine kTk 0 54 (pT (some ⟨D,0,none⟩)) ?_;refine kTk 1 55 (A J (k:Int)) ?_;refine kTk 2 56 (pT (some ⟨D,0,none⟩)) ?_;refine kTk 3 57 (A J (k:Int)) ?_;refine kTk 4 58 (pT (some ⟨D,0,none⟩)) ?_;refine kTk 5 59 (pT (some ⟨D,3,none⟩)) ?_;refine kTk 6 60 (pT (some ⟨D,3+k,none⟩)) ?_;refine kTk 9 63 (pT (some ⟨D,0,none⟩)) ?_;refine kTk 10 64 (pT (some ⟨D,3,none⟩)) ?_;have F:=z7o hz8.ra.box hk;rw[el2.out]at F;refine wpAnyH_ready (rs:=[7]) kR kS ?_;refine z24 (some 61) (.slice (some ⟨b,off,none⟩) (m+1) (cap+1)) w8 rfl rfl kI (by go_simp) trivial ?_ AllReadyH.nil;simp only[pS];refine tkH (i:=8) (some 62) (.slice (some ⟨b,if cap=0 then off else off+8,none⟩) m cap) rfl rfl (fun V hV=>zXj V b off m cap _ rfl rfl hmc) hS ?_;simp only[pS];refine kTk 11 65 (pT (some ⟨D,3+k,none⟩)) ?_;have hz9:=hz8.set (hz8.ra.pop hk hev8 fun g hg=>by rw[el2.out];exact hg);refine wpAnyH_ready (rs:=[12]) kR kS ?_;refine z3b (w8.setCell ⟨D,3+k,none⟩ (.slice (some ⟨b,if cap=0 then off else off+8,none⟩) m cap)) rfl rfl kI (by go_simp) trivial ?_ AllReadyH.nil;simp only[pS];refine wpAnyH_done kR ?_ _;clear F hz8 hev8 hS;generalize w8.setCell ⟨D,3+k,none⟩ (.slice (some ⟨b,if cap=0 then off else off+8,none⟩) m cap)=w9 at*;obtain⟨r3,HR3⟩: ∃r3,Hid (r2.pop k (.slice (some ⟨b,if cap=0 then off else off+8,none⟩) m cap) rest=r3):=⟨_,rfl⟩;rw[HR3.out]at hz9;have rn3:r3.ran=r'.ran:=by rw[<-HR3.out];exact rn2.out
      have F:=z7o hz9.ra.box hk;rw[rn3]at F;have e9:IntKind.i64.wrap (r'.ran+1)=r'.ran+1:=by rw[IntWalk.i64_left,z08 kO kO]
      go_upto_region 10 with fail
      have hz10:=hz9.set (hz9.ra.ran (r'.ran+1));clear F hz9 e9;generalize w9.setCell ⟨D,12,none⟩ (A J (r'.ran+1))=w10 at*;have F:=(Mm.cons (Mm.start w10) hz10.sd).x;simp only[Mx,z13]at F;have ea:IntKind.i64.wrap (s.steps+1)=s.steps+1:=by rw[IntWalk.i64_left,z08 kO kO]
      have eb:IntKind.i64.wrap (lv-(s.steps+1))=lv-(s.steps+1):=by rw[IntWalk.i64_left,z08 kO kO]
      go_upto_region 11 with fail
      clear F ea eb;go_step;refine kGv ?_;refine kGv ?_;refine wpList_load_row rfl 96 (.tmp 6) rfl g rfl 96 (z13 s vo) (0,0) _ hz10.sd Tryz.underlying96 rfl Tryz.infoRsd ?_;simp only[pS];refine wpList_buildTo rfl 98 #[(0,.tmp 79),(1,.tmp 80)] rfl (some 81) rfl #[A J (k:Int),A J s.bf,A J s.num,vo,A J s.steps] kR ?_;obtain⟨i0,hi0,hz0,hz1,hz2⟩:=info_parts Tryz.infoRdn;refine wpList_buildSlice rfl 87 98 1 #[(0,.tmp 81)] rfl #[A J (k:Int),A J s.bf,A J s.num,vo,A J s.steps] i0 _ Tryz.underlying87 hi0 hz0 (by rw[hz1];omega) (by rw[hz1];omega) (by rw[hz1];kernel_rfl) ?_;have hA:=kAl w10 (cT #[A J (k:Int),A J s.bf,A J s.num,vo,A J s.steps] 98);have hz11:=hz10.later hA;have hn11:=z4y w10 #[A J (k:Int),A J s.bf,A J s.num,vo,A J s.steps] 98;have h1c:=zVh (k:=k) (s:=s) hz11.own;have hlen:=HQ.out.2.2.1;refine wpList_append_own (w10.alloc (cT #[A J (k:Int),A J s.bf,A J s.num,vo,A J s.steps] 98)) rfl (.tmp 78) (.tmp 82) 87 rfl w.heap.size 98 i0 _ 5 56 Tryz.underlying87 hi0 hz0 hz1 hz2 rfl kD _ _ _ rfl hz11.dn.1 ⟨w10.heap.size,0,none⟩ 1 1 [A J (k:Int),A J s.bf,A J s.num,vo,A J s.steps] rfl rfl hn11 h1c (by rw[List.length_append];unfold maxLen;omega) (by rw[List.length_append];omega) hz11.fr.1.size ?_;intro v12 w12 ho12 hg12 _;simp only[pS];obtain⟨f',rfl⟩: ∃f',f=f'+1:=⟨f-1,by omega⟩;have lt12:=World.ownsRow.lt hz11.dn.1
      have t12: ∀{j:Nat}{cs:Array Value}{t:TypeId}{fz:Nat×Nat},(w10.alloc (cT #[A J (k:Int),A J s.bf,A J s.num,vo,A J s.steps] 98)).heap[j]?=some (cT cs t fz)->t≠98->w12.heap[j]?=(w10.alloc (cT #[A J (k:Int),A J s.bf,A J s.num,vo,A J s.steps] 98)).heap[j]?:=fun{j cs t fz} hj ht=>hg12.block j (Array.getElem?_eq_some_iff.1 hj).1 fun e=>by
       rcases hz11.dn.1.2 with⟨e1, -⟩|⟨g,c,cur,e1, -,h', -⟩
       ·rw[e1]at e;cases e
       ·rw[e1]at e
        cases e;exact z1p hj h' ht rfl
      have hR12:RAt w12 base D {r3 with ran:=r'.ran+1}:=hz11.ra.tags hg12.size fun j cs t fz hj ht=>t12 hj (by rcases ht with rfl|rfl|rfl|rfl|rfl|rfl<;>decide)
      have HR4:Hid (RIn w base D k r1 (M+20*k) ds0 v12 (lv-(s.steps+1)) f' w12):=by
       have hv:=dsk_ev r' k T rest lv (r'.v k) (.slice (some ⟨b,if cap=0 then off else off+8,none⟩) m cap) ys s HS.out hy;rw[HR2.out,HR3.out]at hv;have he':((r'.lf k lv).dsk.g k).evs=T::rest:=he;have hl':((r'.lf k lv).dsk.g k).left=lv:=z31 _ _ _;have hd2:=hdp.ev hk he' (by rw[hl'];exact hlp) HCL.out (by rw[show(z05 T (r'.lf k lv).dsk.ran ((r'.lf k lv).dsk.g k).ps sd0).1=s from HS.out];exact hsm);rw[hv]at hd2;refine⟨{r3 with ran:=r'.ran+1},ds++[⟨k,s,vo⟩],hR12,?_,⟨hd2.few,hd2.ids,hd2.evs,hd2.told,hd2.may,hd2.left,hd2.ran.1,Int.le_trans hd2.ran.2 kO⟩,?_,⟨hz11.fr.1.trans ⟨hg12.os,hg12.tape,hg12.output,hg12.size,fun j hj=>absurd hj (Nat.not_lt_zero _)⟩,fun j hj=>(hg12.block j (by have:=hz11.fr.1.size;have:=hb.out;omega) fun e=>by have:=(lt12 j e.symm).1;have:=hb.out;omega).trans (hz11.fr.2.1 j hj),fun j cs t fz hj h1 h2 h3 h4=>(hg12.block j (by have:=hz11.fr.1.size;have:=(Array.getElem?_eq_some_iff.1 hj).1;omega) fun e=>by have:=(lt12 j e.symm).1;have:=(Array.getElem?_eq_some_iff.1 hj).1;omega).trans (hz11.fr.2.2 j cs t fz hj h1 h2 h3 h4)⟩,?_,fun x hx=>?_,by rw[List.length_append,List.length_singleton];omega⟩
       ·rw[hgo,z2b,he']
        dsimp only;rw[if_pos (by rw[hl'];exact hlp),hv,List.map_append];rfl
       ·show(r3.evs k).length<=f'
        rw[<-HR3.out,show(r2.pop k (.slice (some ⟨b,if cap=0 then off else off+8,none⟩) m cap) rest).evs k=rest from z31 _ _ _,HMm.out];omega
       ·rw[<-List.append_assoc]
        refine⟨by rw[List.length_append,z99];exact ho12,fun y hy=>?_⟩;rcases List.mem_append.1 hy with hy|hy
        ·exact z5i (hz11.dn.2 y hy) fun j cs hj _=>t12 hj kD
        ·rw[List.mem_singleton.1 hy]
         exact z5i hz11.own fun j cs hj _=>t12 hj kD
       ·rcases List.mem_append.1 hx with hx|hx
        ·exact hks x hx
        ·rw[List.mem_singleton.1 hx]
      have HME:Hid (zXo (w12.cell? ⟨D,3+k,none⟩)<zXo (wr.cell? ⟨D,3+k,none⟩)):=by
       rw[(z7o hR12.box hk).2.1,(z7o hR.box hk).2.1,el.out,show({r3 with ran:=r'.ran+1}:Rdk).l k= .slice (some ⟨b,if cap=0 then off else off+8,none⟩) m cap by rw[<-HR3.out];exact z31 _ _ _];exact Nat.lt_succ_self m
      clear hz10 hz11 hn11 h1c ho12 hg12 hA hR12 t12 lt12;go_wp2_with fail;go_roundw
      case rel=>exact⟨f',_,kO,rfl,HR4⟩
      case measure=>exact HME.out
  ·obtain rfl:k=3:=by omega
   obtain⟨r1,ds0,hR,hr1,hdp,hF,hdn,hmap,hlen,hlz⟩:=H.out.ex;clear H;go_wp2_with fail;go_ret;exact⟨_,_,_,rfl,hR,hF,hr1,hdn,hmap,by omega⟩
end
section
open Go.ChangeShapes Go.WideShapes Go.ChangeAt Go.RowKit
set_option maxHeartbeats 4000000
section
variable {w0 w w1:World} {base B D k:Nat} {d d':Dsk} {r r':Rdk} {M M':Int} {er:Int} {T:Nat->Int}
def EvP(d:Dsk)(k:Nat)(T:Nat->Int)(d':Dsk)(er:Int):Prop:=
 ((d.g k).evs.length=20/\d'=d/\er=12)\/((d.g k).evs.length<20/\er=0/\d'=d.put k {d.g k with evs:=(d.g k).evs++[T]})
theorem zYv(h:Hp w0 base B D d r M w)(hk:k<3)(hT: ∀i,i<8->In64 (T i)):Calls tP 15 #[pT (some ⟨B,0,none⟩),A J (k:Int),.agg (z06 T)] w fun e w1=> ∃I er d',e= rT I/\z3p w1.heap.size w1 I er (-1)/\Kept B w w1/\DOk w1 B d' M/\EvP d k T d' er:=by
 have h20:=h.ok.evs k hk
 by_cases c:(d.g k).evs.length=20
 ·exact(zJc B k hk d T w h.ok.at_ c).mono fun e w1 ⟨h1,h2⟩=>⟨_,12,d,h1,.inr (.inl ⟨rfl,rfl,by decide⟩),z09 h2 B,h.ok.later h2,.inl ⟨c,rfl,rfl⟩⟩
 have c':(d.g k).evs.length<20:=kO;refine(zRb B k _ hk d T w h.ok.at_ rfl c').mono fun e w1 ⟨h1,h2,h3⟩=>⟨_,0,_,h1,.inl ⟨rfl,rfl,rfl⟩,h2,?_,.inr ⟨c',rfl,rfl⟩⟩;refine h.ok.gate (Int.le_refl _) h2 h3 (fun p hp=>(h.ok.ps k hk p hp).kept h2) (h.ok.few k hk) ?_ (fun T' hT'=>?_) (h.ok.may0 k hk) (h.ok.may1 k hk) (h.ok.left0 k hk) (h.ok.left1 k hk) (h.ok.last0 k hk) (h.ok.last1 k hk)
 ·show((d.g k).evs++[T]).length<=20
  rw[List.length_append,List.length_singleton];omega
 rcases List.mem_append.1 hT' with hT'|hT'
 ·exact h.ok.told k hk T' hT'
 rw[List.mem_singleton.1 hT'];exact hT
theorem zYz(r:Rdk)(k:Nat)(v:Value)(T:Nat->Int):(r.ev k v T).dsk=r.dsk.put k {r.dsk.g k with evs:=r.evs k++[T]}:=by
 unfold Dsk.put Rdk.dsk;congr 1;funext i
 by_cases c:i=k
 ·rw[if_pos c,c];unfold Rdk.gt Rdk.ev;dsimp only;rw[z31]
 rw[if_neg c];unfold Rdk.gt Rdk.ev;dsimp only;rw[z34 _ _ c]
theorem ev_doc(h:Hp w0 base B D d r M w)(hk:k<3)(hkp:Kept B w w1)(hd:DOk w1 B d' M)(hP:EvP d k T d' er):Calls tP 22 #[pT (some ⟨D,0,none⟩),A J (k:Int),.agg (z06 T)] w1 fun e w2=>e= rT (A J er)/\ ∃r',Hp w0 base B D d' r' M w2/\Fr base w1 w2:=by
 have hr:=h.ra.kept h.ok.at_ hkp;have he:r.evs k=(d.g k).evs:=(h.eq.g k).evs.symm;refine(zQ8 hr hk hr.bs T (by rw[he];exact h.ok.evs k hk)).mono fun e w2 q=>?_;rcases q with⟨q1,rfl,q3⟩|⟨q1,rfl,v',q3,q4⟩
 ·rcases hP with⟨p1,rfl,rfl⟩|⟨p1, -⟩
  ·exact⟨rfl,r,h.step2 hkp hd (Fr.of q3 hr.bs) (hr.later q3) h.eq (fun _ _=>rfl) h.st,Fr.of q3 hr.bs⟩
  ·rw[he]at q1;omega
 rcases hP with⟨p1, -⟩|⟨p1,rfl,rfl⟩
 ·rw[he]at q1;omega
 refine⟨rfl,_,h.step2 hkp hd q4 q3 ?_ (z9q d rfl) (h.st.put (h.st k)),q4⟩;rw[zYz];exact h.eq.put ⟨(h.eq.g k).ps,(h.eq.g k).last,by rw[he],(h.eq.g k).may,(h.eq.g k).left⟩
theorem zPy(h:Hp w0 base B D d r M w)(hk:k<3){time:Int}(hT: ∀i,i<8->In64 (T i))(ht:In64 time):Calls tP 26 #[pT (some ⟨B,k*317,none⟩),.agg (z06 T),A J time] w fun e w1=> ∃vo,e= rT (.agg (z13 (z05 T time (d.g k).ps sd0).1 vo))/\w1.ownsRow w.heap.size 2 1 vo (z05 T time (d.g k).ps sd0).1.out.length ((z05 T time (d.g k).ps sd0).1.out.map (Value.int .i64))/\Kept B w w1/\DOk w1 B (d.put k {d.g k with ps:=(z05 T time (d.g k).ps sd0).2}) M:=by
 refine(zR8 B k hk d T time w h.ok.at_ (h.ok.few k hk) (h.ok.ps k hk) hT ht).mono fun e w1 ⟨vo,h1,h2,h3,h4⟩=>⟨vo,h1,z42 h4 kO,h2,?_⟩;obtain⟨c1, -, -,c4, -⟩:=z3m (w:=w1) (B:=B) hT ht (d.g k).ps sd0 (fun p hp=>(h.ok.ps k hk p hp).kept h2);exact h.ok.gate (Int.le_refl _) h2 h3 c4 (by show(z05 T time (d.g k).ps sd0).2.length<=8;rw[c1];exact h.ok.few k hk) (h.ok.evs k hk) (h.ok.told k hk) (h.ok.may0 k hk) (h.ok.may1 k hk) (h.ok.left0 k hk) (h.ok.left1 k hk) (h.ok.last0 k hk) (h.ok.last1 k hk)
theorem zTd(h:Hp w0 base B D d r M w)(hk:k<3){time:Int}(hT: ∀i,i<8->In64 (T i))(ht:In64 time)(hkp:Kept B w w1)(hd:DOk w1 B (d.put k {d.g k with ps:=(z05 T time (d.g k).ps sd0).2}) M):Calls tP 27 #[pT (some ⟨r.c k,0,none⟩),.agg (z06 T),A J time] w1 fun e w2=> ∃vo r',e= rT (.agg (z13 (z05 T time (d.g k).ps sd0).1 vo))/\w2.ownsRow w1.heap.size 2 1 vo (z05 T time (d.g k).ps sd0).1.out.length ((z05 T time (d.g k).ps sd0).1.out.map (Value.int .i64))/\Hp w0 base B D (d.put k {d.g k with ps:=(z05 T time (d.g k).ps sd0).2}) r' M w2/\Fr base w1 w2:=by
 have hr:=h.ra.kept h.ok.at_ hkp;have hc:=hr.ch k hk;have hbr:((d.g k).ps).map Pg.bare=((r.zs k).map fun z=>z.2).map Pg.bare:=(h.eq.g k).ps;obtain⟨b1,b2⟩:=z5f T time _ _ sd0 hbr;refine(zG9 hc hr.bs (by rw[h.len];exact h.ok.few k hk) (hr.ap k hk) (hr.pg k hk) (fun z hz=>?_) T time hT ht).mono fun e w2 ⟨vo,h1,h2,h3,ys,y1,y2,y3,y4⟩=>?_
 ·obtain⟨p,hp,e⟩:=zA3 hbr.symm (List.mem_map.2 ⟨z,hz,rfl⟩)
  have:=((h.st k).id p hp).1;rw[zBo e];omega
 rw[<-b1]at h1 h2
 have hR:=hr.chain hk hr.bs (fun x hx=>by obtain⟨z,hz,rfl⟩:=List.mem_map.1 hx;exact .inr ⟨z,hz,rfl⟩) h3 y3 y4 (by unfold z5h;rw[y1];exact hr.ap k hk) fun z hz=> .inl (by
  have:z.1∈(r.zs k).map fun z=>z.1:=by rw[<-y1];exact List.mem_map.2 ⟨z,hz,rfl⟩
  exact List.mem_map.1 this)
 refine⟨vo,_,h1,h2,h.step2 hkp hd hR.2 hR.1 ?_ (z9q d rfl) (h.st.put ((h.st k).same (zI9 _ _ _ _))),hR.2⟩;rw[zF0];exact h.eq.put ⟨by show _=(ys.map fun z=>z.2).map Pg.bare;rw[y2,b2],(h.last k).symm,(h.eq.g k).evs,(h.eq.g k).may,(h.eq.g k).left⟩
theorem Hp.dp(h:Hp w0 base B D d r M w):DP r.dsk M:=by
 have e:=h.eq.g;refine⟨fun k hk=>?_,fun k hk p hp=>?_,fun k hk=>?_,fun k hk=>?_,fun k hk=>?_,fun k hk=>?_,?_⟩
 ·rw[<-zLx (e k).ps];exact h.ok.few k hk
 ·obtain⟨q,hq,e1⟩:=zA3 (e k).ps.symm hp
  have:=((h.st k).id q hq).1;rw[zBo e1];omega
 ·rw[<-(e k).evs];exact h.ok.evs k hk
 ·rw[<-(e k).evs];exact h.ok.told k hk
 ·rw[<-(e k).may];exact⟨h.ok.may0 k hk,h.ok.may1 k hk⟩
 ·rw[<-(e k).left];exact⟨h.ok.left0 k hk,h.ok.left1 k hk⟩
 rw[<-h.eq.ran];exact⟨h.ok.ran0,h.ok.ran1⟩
theorem zXv(h:Hp w0 base B D d r M w)(hM0:0<=M)(hM:M<=900000):Calls tP 23 #[pT (some ⟨D,0,none⟩)] w fun e w1=> ∃vd ds r',e= rT vd/\RAt w1 base D r'/\Fr base w w1/\DkEq (z0z 3 d).1 r'.dsk/\z9g w1 w.heap.size vd ds/\(ds.map fun x=>(x.k,x.s))=(z0z 3 d).2/\ds.length<=60:=by
 obtain⟨q1,q2⟩:=zCm h.eq 3;refine(zQ1 h.ra h.ra.bs h.dp hM0 hM fun k hk=>?_).mono fun e w1 ⟨vd,ds,r',h1,h2,h3,h4,h5,h6,h7⟩=>⟨vd,ds,r',h1,h2,h3,by rw[h4];exact q1,h5,by rw[h6,q2],h7⟩;rw[show r.left k=(d.g k).left from(h.eq.g k).left.symm];exact h.lf k hk
theorem zTh(h:Hp w0 base B D d r M w)(hM0:0<=M)(hM:M<=900000)(hf:Fr base w w1)(hr:RAt w1 base D r')(he:DkEq (z0z 3 d).1 r'.dsk):Calls tP 24 #[pT (some ⟨B,0,none⟩)] w1 fun e w2=> ∃vd ds,e= rT vd/\Kept B w1 w2/\Hp w0 base B D (z0z 3 d).1 r' (M+60) w2/\DnAt w2 w1.heap.size vd ds/\(ds.map fun x=>(x.k,x.s))=(z0z 3 d).2/\ds.length<=60:=by
 have ho:=h.ok.fr hf;exact(zR9 B d M hM0 hM w1 ho h.lf).mono fun e w2 ⟨vd,ds,h1,h2,h3,h4,h5,h6⟩=>⟨vd,ds,h1,h2,h.step hf hr h2 h3 he (z92 d h.lf h.ok.evs 3 (Nat.le_refl _)) (zAh h.st 3),h4,h5,h6⟩
end
end
end Go.Proofs.YtabjjgkmegcacaaGreatDoor
