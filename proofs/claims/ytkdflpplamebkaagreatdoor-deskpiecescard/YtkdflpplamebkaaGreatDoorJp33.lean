/-
A part of the proof of DeskPieces; its card says what is proved.
-/
import Derived.Test.YtkdflpplamebkaaGreatDoorJp32
set_option maxHeartbeats 40000000
open Go.Value renaming int → A
open Go.IntKind renaming i64 → C
open Go.RowKit.Below renaming alloc → bA, setCell → bS, drew → bD, refl → bF
set_option maxRecDepth 1000000
set_option linter.defProp false
set_option linter.unusedVariables false
set_option linter.unusedSimpArgs false
open Go.Ending renaming returned → rT
open Go.Value renaming pointer → pT
open Go.Obj renaming cells → cT
open Go.Proofs.Tryz renaming prog → tP
namespace Go.Proofs.YtkdflpplamebkaaGreatDoor
open Go.ChangeShapes Go.WideShapes Go.ChangeAt Go.RowKit
theorem gateGo_end(k:Nat): ∀(f:Nat)(d:Dsk)(l:List Sd),(d.g k).evs.length<=f->((z2h k f d l).1.g k).evs=[]\/((z2h k f d l).1.g k).left<=0
 |0,d,l,h=>Or.inl (List.eq_nil_of_length_eq_zero (Nat.le_zero.1 h))
 |f+1,d,l,h=>by
  rw[z2h]
  cases he:(d.g k).evs with
  |nil=>exact Or.inl he
  |cons T rest=>
   dsimp only
   by_cases c:0<(d.g k).left
   ·rw[if_pos c]
    refine gateGo_end k f _ _ ?_;show(((d.put k _).g k).evs).length<=f;rw[z3r,if_pos rfl];rw[he,List.length_cons]at h;show rest.length<=f;omega
   ·rw[if_neg c]
    exact Or.inr (by show(d.g k).left<=0;omega)
theorem zFm(d:Dsk)(k:Nat)(h:(d.g k).evs.length<=20):((z1z d k).1.g k).left<=0:=by
 unfold z1z;dsimp only;have h':((z69 d k).g k).evs.length<=20:=by unfold z69;rw[z3r,if_pos rfl];exact h
 rcases gateGo_end k 20 (z69 d k) [] h' with e|e
 ·unfold z5y
  rw[if_pos (by rw[e];rfl),z3r,if_pos rfl];exact Int.min_le_right _ _
 unfold z5y;split
 ·rw[z3r,if_pos rfl];exact Int.min_le_right _ _
 exact e
theorem z7y(d:Dsk)(k i:Nat)(hi:i≠k):(z1z d k).1.g i=d.g i:=by
 unfold z1z;dsimp only;have e:(z2h k 20 (z69 d k) []).1.g i=d.g i:=by rw[z7z k 20 _ _ i hi];unfold z69;rw[z3r,if_neg hi]
 unfold z5y;split
 ·rw[z3r,if_neg hi];exact e
 exact e
theorem z9m(d:Dsk): ∀(j i:Nat),j<=i->(z15 j d).1.g i=d.g i
 |0,i,_=>rfl
 |j+1,i,h=>by
  rw[z15];dsimp only;rw[z7y _ j i kO];exact z9m d j i kO
theorem zBo(d:Dsk)(hz: ∀k,k<3->(d.g k).left<=0)(he: ∀k,k<3->(d.g k).evs.length<=20): ∀j,j<=3-> ∀k,k<3->((z15 j d).1.g k).left<=0
 |0,_,k,hk=>hz k hk
 |j+1,hj,k,hk=>by
  rw[z15];dsimp only
  by_cases c:k=j
  ·subst c
   refine zFm _ k ?_;rw[z9m d k k (Nat.le_refl _)];exact he k hk
  ·rw[z7y _ j k c]
   exact zBo d hz he j kO k hk
def costs:List Sd->Int
 |[]=>0
 |s::l=>(s.steps+1)+costs l
def Pg.bare(p:Pg):Pg:={p with sl:= .slice none 0 0}
theorem q3e{p q:Pg}(e:p.bare=q.bare)(r:Rn):(p.ran r).bare=(q.ran r).bare:=by
 have e1:p.xs=q.xs:=show p.bare.xs=q.bare.xs by rw[e]
 have e3:p.id=q.id:=show p.bare.id=q.bare.id by rw[e]
 have e4:p.rank=q.rank:=show p.bare.rank=q.bare.rank by rw[e]
 unfold Pg.ran Pg.bare;rw[e1,e3,e4]
theorem q00{p q:Pg}(e:p.bare=q.bare)(s:Sd)(r:Rn):s.more p r=s.more q r:=by
 have e3:p.id=q.id:=show p.bare.id=q.bare.id by rw[e]
 unfold Sd.more;rw[e3]
theorem zQq{α:Type}{l:List α}{i:Nat}(z:α)(h:i<l.length):l.getD i z∈l:=by
 rw[List.getD_eq_getElem?_getD,List.getElem?_eq_getElem h];exact List.getElem_mem h
section
section
variable {w:World} {B:Nat}
end
end
theorem DOk.event{w w':World}{B k:Nat}{d:Dsk}{M:Int}{T:Nat->Int}(h:DOk w B d M)(hk:k<3)(h20:(d.g k).evs.length<20)(hT: ∀i,i<8->In64 (T i))(hkp:Kept B w w')(hD:z0f w' B (d.put k {d.g k with evs:=(d.g k).evs++[T]})):DOk w' B (d.put k {d.g k with evs:=(d.g k).evs++[T]}) M:=by
 refine⟨hD,?_,?_,?_,?_,?_,?_,?_,?_,?_,?_,h.ran0,h.ran1⟩<;>intro j hj<;>rw[z3r]<;>split
 ·exact fun p hp=>(h.ps k hk p hp).kept hkp
 ·exact fun p hp=>(h.ps j hj p hp).kept hkp
 ·exact h.few k hk
 ·exact h.few j hj
 ·show((d.g k).evs++[T]).length<=20;rw[List.length_append,List.length_singleton];omega
 ·exact h.evs j hj
 ·intro T' hT'
  rcases List.mem_append.1 hT' with hT'|hT'
  ·exact h.told k hk T' hT'
  ·rw[List.mem_singleton.1 hT'];exact hT
 ·exact h.told j hj
 ·exact h.may0 k hk
 ·exact h.may0 j hj
 ·exact h.may1 k hk
 ·exact h.may1 j hj
 ·exact h.left0 k hk
 ·exact h.left0 j hj
 ·exact h.left1 k hk
 ·exact h.left1 j hj
 ·exact h.last0 k hk
 ·exact h.last0 j hj
 ·exact h.last1 k hk
 exact h.last1 j hj
theorem ins_mem{ps:List Pg}{i:Nat}{q p:Pg}(h:p∈Pg.ins ps i q):p=q\/p∈ps:=by
 unfold Pg.ins at h;rcases List.mem_append.1 h with h|h
 ·exact Or.inr (List.mem_of_mem_take h)
 rcases List.mem_cons.1 h with h|h
 ·exact Or.inl h
 exact Or.inr (List.mem_of_mem_drop h)
theorem DOk.attach{w w':World}{B k i:Nat}{d:Dsk}{M:Int}{q:Pg}(h:DOk w B d M)(hk:k<3)(h7:(d.g k).ps.length<=7)(hi:i<=(d.g k).ps.length)(hq:PgOk w' B q)(hkp:Kept B w w')(hD:z0f w' B (d.put k {d.g k with ps:=Pg.ins (d.g k).ps i q,last:=(d.g k).last+1})):DOk w' B (d.put k {d.g k with ps:=Pg.ins (d.g k).ps i q,last:=(d.g k).last+1}) (M+1):=by
 have hr:(d.put k {d.g k with ps:=Pg.ins (d.g k).ps i q,last:=(d.g k).last+1}).ran=d.ran:=rfl;refine⟨hD,?_,?_,?_,?_,?_,?_,?_,?_,?_,?_,h.ran0,by rw[hr];have:=h.ran1;omega⟩<;>intro j hj<;>rw[z3r]<;>split
 ·intro p hp
  rcases ins_mem hp with rfl|hp
  ·exact hq
  ·exact(h.ps k hk p hp).kept hkp
 ·exact fun p hp=>(h.ps j hj p hp).kept hkp
 ·show(Pg.ins (d.g k).ps i q).length<=8;rw[zGr _ _ hi];omega
 ·exact h.few j hj
 ·exact h.evs k hk
 ·exact h.evs j hj
 ·exact h.told k hk
 ·exact h.told j hj
 ·exact h.may0 k hk
 ·exact h.may0 j hj
 ·exact h.may1 k hk
 ·exact h.may1 j hj
 ·exact h.left0 k hk
 ·exact h.left0 j hj
 ·exact h.left1 k hk
 ·exact h.left1 j hj
 ·show 0<=(d.g k).last+1;have:=h.last0 k hk;omega
 ·exact h.last0 j hj
 ·show(d.g k).last+1<=M+1;have:=h.last1 k hk;omega
 have:=h.last1 j hj;omega
def zUn(d:Dsk)(k:Nat)(xs:List St)(rank:Int)(d':Dsk):Prop:=
 (¬(Lets xs/\(d.g k).ps.length<=7)/\d'=d)\/(Lets xs/\(d.g k).ps.length<=7/\ ∃q:Pg,q.id=(d.g k).last+1/\q.rank=rank/\q.xs=xs/\q.tab=(fun _=>0)/\d'=d.put k {d.g k with ps:=Pg.ins (d.g k).ps ((d.g k).ps.findIdx fun p=>decide (rank<p.rank)) q,last:=(d.g k).last+1})
theorem zUn.same{d d':Dsk}{k:Nat}{xs:List St}{rank:Int}(h:zUn d k xs rank d'): ∀j,(d'.g j).evs=(d.g j).evs/\(d'.g j).may=(d.g j).may/\(d'.g j).left=(d.g j).left:=by
 intro j;rcases h with⟨-,rfl⟩|⟨-, -,q, -, -, -, -,rfl⟩
 ·exact⟨rfl,rfl,rfl⟩
 rw[z3r];split
 ·rename_i e;rw[e];exact⟨rfl,rfl,rfl⟩
 exact⟨rfl,rfl,rfl⟩
section
attribute [local simp] z05 z0a z06
section
variable {w:World} {n bm B:Nat} {mv sp mo ca we:Nat->Int} {al:Nat->Bool} {d:Dsk} {M:Int} {wr:World}
end
end
section
attribute [local simp] z05 z0a z06
theorem zHa: ∀(ds:List Dn)(q j:Nat)(x:Dn),ds[q]?=some x->j<5->(z6c ds)[q*5+j]?=x.cells[j]?
 |[],q,j,x,h,_=>by simp at h
 |y::ds,0,j,x,h,hj=>by
  have e:y=x:=by simpa using h
  subst e;have e1:z6c (y::ds)=y.cells++z6c ds:=rfl;rw[e1,Nat.zero_mul,Nat.zero_add,List.getElem?_append_left (by show j<5;exact hj)]
 |y::ds,q+1,j,x,h,hj=>by
  have e1:z6c (y::ds)=y.cells++z6c ds:=rfl;have hl:y.cells.length=5:=rfl;rw[e1,List.getElem?_append_right kO,hl,show(q+1)*5+j-5=q*5+j by omega];exact zHa ds q j x (by simpa using h) hj
theorem q2w{w:World}{base gd cap q:Nat}{ds:List Dn}{x:Dn}(h:w.ownsRow base 101 5 (.slice (some ⟨gd,0,none⟩) ds.length cap) ds.length (z6c ds))(hq:ds[q]?=some x):w.rangeAt gd (q*5) x.cells:=fun j v hv=>by
 have hj:j<5:=by have:=(List.getElem?_eq_some_iff.1 hv).1;simpa[Dn.cells]using this
 have hl:=(List.getElem?_eq_some_iff.1 hq).1;rw[World.ownsRow.cellAt h (q*5+j) kO,zHa ds q j x hq hj];exact hv
section
variable {w:World} {n bm B:Nat} {mv sp mo ca we:Nat->Int} {al:Nat->Bool} {d:Dsk} {M:Int} {base:Nat} {vd:Value} {ds:List Dn} {q:Nat} {wr:World}
end
end
section
attribute [local simp] z05 z0a z06
def z3o(may:Nat->Int)(j:Nat):Dsk:=⟨fun i=>⟨[],0,[],if i<j then may i else 0,0⟩,0⟩
def z3f:Array Value:=Array.ofFn (n:=952) fun i=>(z3o (fun _=>0) 0).cell i.1
theorem zGi(may:Nat->Int):z3o may 0=z3o (fun _=>0) 0:=by
 unfold z3o;congr 1
theorem zHh:Tryz.prog.built 125 []=some z3f:=kR
theorem zR2(d:Dsk){k:Nat}(x:Int)(hk:k<3)(j:Nat)(_:j<952):(d.put k {d.g k with may:=x}).cell j=if j=k*317+315 then A C x else d.cell j:=by
 rw[z65 d _ hk]
 by_cases c:k*317<=j/\j<k*317+317
 ·rw[if_pos c]
  obtain⟨i,rfl⟩: ∃i,j=k*317+i:=⟨j-k*317,by omega⟩;rw[Nat.add_sub_cancel_left,z1s d hk kO];unfold z0y;dsimp only
  by_cases c1:i<154
  ·rw[if_pos c1,if_pos c1,if_neg (show¬k*317+i=k*317+315 by omega)]
  rw[if_neg c1,if_neg c1]
  by_cases c2:i<314
  ·rw[if_pos c2,if_pos c2,if_neg (show¬k*317+i=k*317+315 by omega)]
  rw[if_neg c2,if_neg c2]
  by_cases c3:i=314
  ·rw[if_pos c3,if_pos c3,if_neg (show¬k*317+i=k*317+315 by omega)]
  rw[if_neg c3,if_neg c3]
  by_cases c4:i=315
  ·rw[if_pos c4,if_pos (show k*317+i=k*317+315 by omega)]
  ·rw[if_neg c4,if_neg c4,if_neg (show¬k*317+i=k*317+315 by omega)]
 rw[if_neg c,if_neg (show¬j=k*317+315 by omega)]
theorem zGj(may:Nat->Int)(k:Nat):z3o may (k+1)=(z3o may k).put k {(z3o may k).g k with may:=may k}:=by
 unfold z3o Dsk.put;dsimp only;congr 1;funext i
 by_cases c:i=k
 ·rw[if_pos c,c,if_pos (Nat.lt_succ_self k)]
 rw[if_neg c];congr 1
 by_cases c2:i<k
 ·rw[if_pos c2,if_pos kO]
 rw[if_neg c2,if_neg kO]
theorem q44(a b c:Value):(Tryz.prog.info? 67).map (·.size)=some #[a,b,c].size:=kR
theorem zXs(may:Nat->Int)(h0: ∀k,k<3->1<=may k)(h1: ∀k,k<3->may k<=1000)(w:World):
  Calls tP 36 #[.agg #[A C (may 0),A C (may 1),A C (may 2)]] w fun e w'=>e= rT (.tuple #[pT (some ⟨w.heap.size+1,0,none⟩),.nilIface])/\Below w.heap.size w w'/\z0f w' (w.heap.size+1) (z3o may 3):=by
 have hK0:Blk w [(w.heap.size,cT #[A C (may 0),A C (may 1),A C (may 2)] 67 (0,0))] (w.alloc (cT #[A C (may 0),A C (may 1),A C (may 2)] 67)):=(Blk.nil ((bF _ _).alloc (Nat.le_refl _) _)).cons (heap_alloc_new w _);have hz0:(w.alloc (cT #[A C (may 0),A C (may 1),A C (may 2)] 67)).heap.size=w.heap.size+1:=by simp
 go_enter Tryz.func36,Tryz.ntmps36;go_upto_region 1 with fail
 generalize w.alloc (cT #[A C (may 0),A C (may 1),A C (may 2)] 67)=w0 at hK0 hz0⊢;go_step;refine wpList_buildTo rfl 125 #[] rfl (some 7) rfl z3f (by simpa using zHh) ?_;simp only[pS]
 (refine z00 rfl (pT (some ⟨w.heap.size+1,0,none⟩)) (w0.alloc (cT z3f 125)) (by rw[<-hz0];go_simp;try rfl) ?_);simp only[pS]
 have hb1:Below w.heap.size w (w0.alloc (cT z3f 125)):=hK0.1.alloc hK0.1.size _;have hm1:=(heap_alloc_old w0 (cT z3f 125) (hK0.lt mcS)).trans (hK0.2 _ mcS);have hd1:z0f (w0.alloc (cT z3f 125)) (w.heap.size+1) (z3o may 0):=by rw[zGi, <-hz0];exact heap_alloc_new w0 _
 clear hK0;generalize w0.alloc (cT z3f 125)=w1 at hb1 hm1 hd1⊢;have HI:Hid (Below w.heap.size w w1/\z0f w1 (w.heap.size+1) (z3o may 0)):=⟨hb1,hd1⟩;go_upto_region 2 with fail
 go_step;refine wpList_load_row rfl 67 (.tmp 1) rfl w.heap.size rfl 67 #[A C (may 0),A C (may 1),A C (may 2)] (0,0) _ hm1 Tryz.underlying67 rfl (q44 _ _ _) ?_;simp only[pS];clear hb1 hm1 hd1;go_upto_region 3 with fail
 go_loopw [10] (fun kv wr=> ∃k:Nat,kv=A C k/\k<=3/\Hid (Below w.heap.size w wr/\z0f wr (w.heap.size+1) (z3o may k))) (fun kv _=>3-(intOf kv).toNat)
 case atStart=>exact⟨0,rfl,by decide,HI.out⟩
 case round=>
  obtain⟨k,rfl,hk3,H⟩:=hrel;clear HI
  by_cases hk:k<3
  ·have a0:=h0 k hk
   have a1:=h1 k hk;have cf:=FnAt.frozen H.out.2 (k*317+315);have c0:=zCo H.out.2 hk
   have HN:Hid (Below w.heap.size w (wr.setCell ⟨w.heap.size+1,k*317+315,none⟩ (A C (may k)))/\z0f (wr.setCell ⟨w.heap.size+1,k*317+315,none⟩ (A C (may k))) (w.heap.size+1) (z3o may (k+1))):=by
    refine⟨H.out.1.setCell (show w.heap.size<=w.heap.size+1 by omega) _,?_⟩;rw[zGj];exact FnAt.ext (FnAt.set H.out.2 (k*317+315) _) fun j hj=>zR2 (z3o may k) (may k) hk j hj
   have t1:decide (may k<1)=false:=decide_eq_false kO;have t2:decide (1000<may k)=false:=decide_eq_false kO;rcases(show k=0\/k=1\/k=2 by omega)with rfl|rfl|rfl
   ·simp only[Nat.zero_mul,Nat.one_mul,Nat.zero_add,Nat.reduceMul,Nat.reduceAdd]at c0 cf HN t1 t2
    push_cast
    go_upto_region 4 with fail
    go_step
    (refine z00 rfl (A C 0) wr kG ?_);simp only[pS]
    (refine z00 rfl (A C (may 0)) wr kR ?_);simp only[pS]
    go_wp2_with fail;go_roundw
    case rel=>exact⟨1,by go_num,by decide,HN.out⟩
    case measure=>simp[intOf]
   ·simp only[Nat.zero_mul,Nat.one_mul,Nat.zero_add,Nat.reduceMul,Nat.reduceAdd]at c0 cf HN t1 t2
    push_cast
    go_upto_region 4 with fail
    go_step
    (refine z00 rfl (A C 1) wr kG ?_);simp only[pS]
    (refine z00 rfl (A C (may 1)) wr kR ?_);simp only[pS]
    go_wp2_with fail;go_roundw
    case rel=>exact⟨2,by go_num,by decide,HN.out⟩
    case measure=>simp[intOf]
   ·simp only[Nat.zero_mul,Nat.one_mul,Nat.zero_add,Nat.reduceMul,Nat.reduceAdd]at c0 cf HN t1 t2
    push_cast
    go_upto_region 4 with fail
    go_step
    (refine z00 rfl (A C 2) wr kG ?_);simp only[pS]
    (refine z00 rfl (A C (may 2)) wr kR ?_);simp only[pS]
    go_wp2_with fail;go_roundw
    case rel=>exact⟨3,by go_num,by decide,HN.out⟩
    case measure=>simp[intOf]
  ·obtain rfl:k=3:=by omega
   go_wp2_with fail;exact bodyPost_ret (v:= .tuple #[pT (some ⟨w.heap.size+1,0,none⟩),.nilIface]) (by simp[results,Tryz.results36,go_sem, *]) rfl ⟨rfl,H.out.1,H.out.2⟩
end
section
attribute [local simp] z05 z0a z06
section
variable {w:World} {Ba Bb:Nat} {da db:Dsk} {M:Int} {wr wr':World}
end
theorem z4j{ps qs:List Pg}(h:ps.map Pg.bare=qs.map Pg.bare):ps.length=qs.length:=by
 have:=congrArg List.length h;rwa[List.length_map,List.length_map]at this
theorem zMl(rank:Int): ∀{ps qs:List Pg},ps.map Pg.bare=qs.map Pg.bare->(ps.findIdx fun p=>decide (rank<p.rank))=qs.findIdx fun p=>decide (rank<p.rank)
 |[],[],_=>rfl
 |[],_::_,h=>by simp at h
 |_::_,[],h=>by simp at h
 |p::ps,q::qs,h=>by
  rw[List.map_cons,List.map_cons]at h;have e1:p.rank=q.rank:=show p.bare.rank=q.bare.rank by rw[(List.cons.inj h).1]
  rw[List.findIdx_cons,List.findIdx_cons,e1,zMl rank (List.cons.inj h).2]
theorem q3f{ps qs:List Pg}(h:ps.map Pg.bare=qs.map Pg.bare)(i:Nat){p q:Pg}(hp:p.bare=q.bare):(Pg.ins ps i p).map Pg.bare=(Pg.ins qs i q).map Pg.bare:=by
 unfold Pg.ins;rw[List.map_append,List.map_append,List.map_cons,List.map_cons,List.map_take,List.map_take,List.map_drop,List.map_drop,h,hp]
def fl(c:Nat)(ds:List Dn):List Dn:=ds.filter fun x=>x.k==c
end
theorem zZz{p q:Pg}(e:p.bare=q.bare)(T:Nat->Int)(t:Int):p.run T t=q.run T t:=by
 have e1:p.xs=q.xs:=show p.bare.xs=q.bare.xs by rw[e]
 have e2:p.tab=q.tab:=show p.bare.tab=q.bare.tab by rw[e]
 unfold Pg.run;rw[<-e1, <-e2]
theorem zA9(T:Nat->Int)(t:Int): ∀(ps qs:List Pg)(s:Sd),ps.map Pg.bare=qs.map Pg.bare->(z08 T t ps s).1=(z08 T t qs s).1/\(z08 T t ps s).2.map Pg.bare=(z08 T t qs s).2.map Pg.bare
 |[],[],s,_=>⟨rfl,rfl⟩
 |[],q::qs,s,e=>by simp at e
 |p::ps,[],s,e=>by simp at e
 |p::ps,q::qs,s,e=>by
  rw[List.map_cons,List.map_cons]at e;have e1:p.bare=q.bare:=(List.cons.inj e).1;have e2:=(List.cons.inj e).2;have er:=zZz e1 T t;have em:=q00 e1 s (q.run T t);have en:=q3e e1 (q.run T t);rw[z08,z08,er,em];obtain⟨i1,i2⟩:=zA9 T t ps qs (s.more q (q.run T t)) e2;split
  ·refine⟨i1,?_⟩
   rw[List.map_cons,List.map_cons,en,i2]
  ·refine⟨rfl,?_⟩
   rw[List.map_cons,List.map_cons,en,e2]
structure GtEq (a b:Gt):Prop where
 ps:a.ps.map Pg.bare=b.ps.map Pg.bare
 last:a.last=b.last
 evs:a.evs=b.evs
 may:a.may=b.may
 left:a.left=b.left
structure DkEq (a b:Dsk):Prop where
 ran:a.ran=b.ran
 g: ∀k,GtEq (a.g k) (b.g k)
theorem GtEq.refl(a:Gt):GtEq a a:=⟨rfl,rfl,rfl,rfl,rfl⟩
theorem DkEq.refl(a:Dsk):DkEq a a:=⟨rfl,fun _=>GtEq.refl _⟩
theorem DkEq.put{a b:Dsk}{k:Nat}{x y:Gt}(h:DkEq a b)(hx:GtEq x y):DkEq (a.put k x) (b.put k y):=⟨h.ran,fun j=>by
 rw[z3r,z3r];split
 ·exact hx
 ·exact h.g j⟩
theorem DkEq.ev{a b:Dsk}(h:DkEq a b)(k:Nat)(T:Nat->Int)(rest:List (Nat->Int)):DkEq (evGo a k T rest).1 (evGo b k T rest).1/\(evGo a k T rest).2=(evGo b k T rest).2:=by
 obtain⟨c1,c2⟩:=zA9 T b.ran _ _ sd0 (h.g k).ps;unfold evGo;rw[h.ran];refine⟨⟨rfl,fun j=>?_⟩,c1⟩;show GtEq ((a.put k _).g j) ((b.put k _).g j);rw[z3r,z3r];split
 ·exact⟨c2,(h.g k).last,rfl,(h.g k).may,by show _-_=_-_;rw[(h.g k).left,c1]⟩
 exact h.g j
theorem zLj(k:Nat): ∀(f:Nat)(a b:Dsk)(l:List Sd),DkEq a b->DkEq (z2h k f a l).1 (z2h k f b l).1/\(z2h k f a l).2=(z2h k f b l).2
 |0,a,b,l,h=>⟨h,rfl⟩
 |f+1,a,b,l,h=>by
  rw[z2h,z2h, <-(h.g k).evs, <-(h.g k).left]
  cases he:(a.g k).evs with
  |nil=>exact⟨h,rfl⟩
  |cons T rest=>
   dsimp only;obtain⟨h1,h2⟩:=h.ev k T rest;split
   ·rw[<-h2]
    exact zLj k f _ _ _ h1
   ·exact⟨h,rfl⟩
theorem zLh{a b:Dsk}(h:DkEq a b)(k:Nat):DkEq (z1z a k).1 (z1z b k).1/\(z1z a k).2=(z1z b k).2:=by
 have h0:DkEq (z69 a k) (z69 b k):=h.put ⟨(h.g k).ps,(h.g k).last,(h.g k).evs,(h.g k).may,by show _+_=_+_;rw[(h.g k).left,(h.g k).may]⟩;obtain⟨h1,h2⟩:=zLj k 20 _ _ [] h0;unfold z1z;refine⟨?_,h2⟩;dsimp only;generalize (z2h k 20 (z69 a k) []).1=x at h1⊢;generalize (z2h k 20 (z69 b k) []).1=y at h1⊢;unfold z5y;rw[<-(h1.g k).evs];split
 ·exact h1.put ⟨(h1.g k).ps,(h1.g k).last,(h1.g k).evs,(h1.g k).may,by show min _ _=min _ _;rw[(h1.g k).left]⟩
 exact h1
theorem zAw{a b:Dsk}(h:DkEq a b): ∀j,DkEq (z15 j a).1 (z15 j b).1/\(z15 j a).2=(z15 j b).2
 |0=>⟨h,rfl⟩
 |j+1=>by
  obtain⟨h1,h2⟩:=zAw h j;obtain⟨g1,g2⟩:=zLh h1 j;rw[z15,z15];dsimp only;exact⟨g1,by rw[h2,g2]⟩
theorem DkEq.att{a a' b b':Dsk}{k:Nat}{xs:List St}{rank:Int}(h:DkEq a b)(ha:zUn a k xs rank a')(hb:zUn b k xs rank b'):DkEq a' b':=by
 have hl:=z4j (h.g k).ps;rcases ha with⟨n1,rfl⟩|⟨l1,l2,q,q1,q2,q3,q4,rfl⟩
 ·rcases hb with⟨-,rfl⟩|⟨m1,m2, -⟩
  ·exact h
  ·exact absurd ⟨m1,by omega⟩ n1
 rcases hb with⟨n1, -⟩|⟨m1,m2,p,p1,p2,p3,p4,rfl⟩
 ·exact absurd ⟨l1,by omega⟩ n1
 have e:q.bare=p.bare:=by
  unfold Pg.bare;rw[q1,q2,q3,q4,p1,p2,p3,p4,(h.g k).last]
 refine h.put ⟨?_,by show _+1=_+1;rw[(h.g k).last],(h.g k).evs,(h.g k).may,(h.g k).left⟩;show(Pg.ins _ _ q).map Pg.bare=(Pg.ins _ _ p).map Pg.bare;rw[zMl rank (h.g k).ps];exact q3f (h.g k).ps _ e
section
attribute [local simp] z05 z0a z06
def zero16:Array Value:=z2a fun _=>0
theorem zJc(tmps:Array Value)(w':World)(g:Nat)(cs:Array Value)(h4:tmps.getD 4 undef= pT (some ⟨g,0,none⟩))(h5:tmps.getD 5 undef= .nilIface)(hg:w'.heap[g]?=some (cT cs 77 (0,0)))(hs:cs.size=16):
  (results Tryz.f43 tmps).run tP w'= .ok (.tuple #[.agg cs,.nilIface]) w':=by
 have h4':tmps[4]?.getD undef= pT (some ⟨g,0,none⟩):=by simpa using h4
 have h5':tmps[5]?.getD undef= .nilIface:=by simpa using h5
 have hl:=run_loadVar_row (P:=tP) w' g 77 77 cs (0,0) _ hg Tryz.underlying77 rfl (by rw[Tryz.info55,hs]);simp[results,Tryz.results43,asAddr,h4',h5',hl]
theorem q31(B k:Nat)(hk:k<3)(d:Dsk)(id:Int)(p:Pg)(w:World)(hD:z0f w B d)(h8:(d.g k).ps.length<=8)(I:Nat)(HI:Hid (((d.g k).ps.findIdx fun p=>p.id==id)=I))(HN:Hid (I<(d.g k).ps.length))(HP:Hid ((d.g k).ps.getD I pg0=p)):zR 43 #[pT (some ⟨B,k*317,none⟩),A C id] w (.tuple #[.agg (z2a p.tab),.nilIface]):=by
 have hI8:I<8:=by have:=HN.out;omega
 have hI0:(0:Int)<=(I:Int):=kO;have hI1:(I:Int)<8:=kO;have hK0:Blk w [(w.heap.size,cT zero16 77 (0,0)),(B,cT (Array.ofFn (n:=952) fun i=>Dsk.cell d i.1) 125 (0,0))] (w.alloc (cT zero16 77)):=((Blk.nil ((bF _ _).alloc (Nat.le_refl _) _)).cons ((heap_alloc_old _ _ hD.lt).trans hD)).cons (heap_alloc_new w _);go_enter Tryz.func43,Tryz.ntmps43;go_upto_region 1 with fail
 change Code.wp _ _ _ _ (w.alloc (cT zero16 77))
 generalize w.alloc (cT zero16 77)=w0 at hK0⊢;have hF:=zCf B k hk d id w0 (hK0.2 _ (mcO _ mcS)) h8 I HI HN;go_upto_region 4 with(first|(go_at_call 72;refine hF.mono ?_;rintro e w3 ⟨rfl,hb3⟩;have hK3:=hK0.later hb3;clear hK0 hb3)|fail)
 go_step
 (refine z00 rfl (pT (some ⟨B,k*317,none⟩)) w3 kG ?_);simp only[pS]
 (refine z00 rfl (A C (I:Int)) w3 kG ?_);simp only[pS]
 (refine z00 rfl (pT (some ⟨B,k*317,none⟩)) w3 kG ?_);simp only[pS]
 (refine z00 rfl (pT (some ⟨B,k*317,none⟩)) w3 kG ?_);simp only[pS]
 (refine z00 rfl (pT (some ⟨B,k*317+I*19,none⟩)) w3 kG ?_);simp only[pS]
 (refine z00 rfl (pT (some ⟨B,k*317+I*19+3,none⟩)) w3 kG ?_);simp only[pS]
 refine wpList_load_mid rfl 77 (.tmp 23) rfl B (k*317+I*19+3) rfl (z2a p.tab).toList _ (by have h:=zQx (hK3.2 _ (mcO _ mcS)) hk hI8;rw[HP.out]at h;exact h) Tryz.underlying77 rfl (by rw[Tryz.info55];rfl) ?_;rw[Array.toArray_toList];simp only[pS];refine wpList_store_row rfl 77 (.tmp 4) (.tmp 24) rfl w.heap.size (z2a p.tab) rfl rfl 77 zero16 (hK3.2 _ mcS) Tryz.info55 rfl (z9j _) ?_;simp only[pS];have hr:=setRow_heap w3 w.heap.size zero16 (z2a p.tab) 77 (0,0) (hK3.2 _ mcS);have hb:=z23 hK3.1 (Nat.le_refl _) (z2a p.tab);go_wp2_with fail;exact bodyPost_ret (v:= .tuple #[.agg (z2a p.tab),.nilIface]) (zJc _ _ w.heap.size _ rfl rfl hr rfl) rfl ⟨rfl,hb⟩
end
section
attribute [local simp] z05 z0a z06
theorem out_tests{k:Int}(h:k<0\/3<=k):(decide (k<0)=true)\/(decide (k<0)=false/\decide (3<=k)=true):=by
 by_cases c:k<0
 ·exact Or.inl (decide_eq_true c)
 exact Or.inr ⟨decide_eq_false c,decide_eq_true kO⟩
theorem z9z(B:Nat)(k:Int)(h:k<0\/3<=k)(w:World):zS 90 #[pT (some ⟨B,0,none⟩),A C k] w (.tuple #[pT none,.iface 33 (A C 2)]):=by
 rcases out_tests h with z1|⟨z1,z2⟩
 ·go_enter Tryz.func90,Tryz.ntmps90
  go_wp2;exact bodyPost_ret (v:= .tuple #[pT none,.iface 33 (A C 2)]) (by simp[results,Tryz.results90,go_sem, *]) rfl ⟨rfl,rfl⟩
 go_enter Tryz.func90,Tryz.ntmps90;go_wp2;exact bodyPost_ret (v:= .tuple #[pT none,.iface 33 (A C 2)]) (by simp[results,Tryz.results90,go_sem, *]) rfl ⟨rfl,rfl⟩
theorem zTs(B:Nat)(k:Int)(h:k<0\/3<=k)(w:World):zS 65 #[pT (some ⟨B,0,none⟩),A C k] w (.tuple #[pT none,.iface 33 (A C 2)]):=by
 go_enter Tryz.func65,Tryz.ntmps65
 go_wp2_with(first
  |(go_at_call 90;refine(z9z B k h _).mono ?_;rintro e w1 ⟨rfl,rfl⟩)
  |fail)
 exact bodyPost_ret (v:= .tuple #[pT none,.iface 33 (A C 2)]) (by simp[results,Tryz.results65,go_sem, *]) rfl ⟨rfl,rfl⟩
theorem zTq(B:Nat)(k:Int)(h:k<0\/3<=k)(w:World):zS 58 #[pT (some ⟨B,0,none⟩),A C k] w (A C (-1)):=by
 go_enter Tryz.func58,Tryz.ntmps58
 go_wp2_with(first
  |(go_at_call 90;refine(z9z B k h _).mono ?_;rintro e w1 ⟨rfl,rfl⟩)
  |fail)
 go_ret;exact⟨rfl,rfl⟩
theorem zXt(B:Nat)(k:Int)(h:k<0\/3<=k)(w:World):zS 59 #[pT (some ⟨B,0,none⟩),A C k] w (A C 0):=by
 go_enter Tryz.func59,Tryz.ntmps59
 go_wp2_with(first
  |(go_at_call 90;refine(z9z B k h _).mono ?_;rintro e w1 ⟨rfl,rfl⟩)
  |fail)
 go_ret;exact⟨rfl,rfl⟩
theorem zTr(B:Nat)(k:Int)(h:k<0\/3<=k)(T:Nat->Int)(w:World):zR 51 #[pT (some ⟨B,0,none⟩),A C k,.agg (z0j T)] w (.iface 33 (A C 2)):=by
 have hb:Below w.heap.size w (w.alloc (cT (z0j T) 92)):=(bF _ _).alloc (Nat.le_refl _) _;go_enter Tryz.func51,Tryz.ntmps51;go_upto_region 1 with fail
 change Code.wp _ _ _ _ (w.alloc (cT (z0j T) 92))
 generalize w.alloc (cT (z0j T) 92)=w0 at hb⊢
 go_wp2_with(first
  |(go_at_call 90;refine(z9z B k h _).mono ?_;rintro e w1 ⟨rfl,rfl⟩)
  |fail)
 go_ret;exact⟨rfl,hb⟩
theorem zAy(B k:Nat)(hk:k<3)(d:Dsk)(id:Int)(w:World)(hD:z0f w B d)(h8:(d.g k).ps.length<=8)(HN:Hid (((d.g k).ps.findIdx fun p=>p.id==id)=(d.g k).ps.length)):zR 72 #[pT (some ⟨B,k*317,none⟩),A C id] w (.tuple #[A C 0,.iface 33 (A C 7)]):=by
 have hK0:Blk w [(w.heap.size,cT #[A C id] 3 (0,0)),(B,cT (Array.ofFn (n:=952) fun i=>Dsk.cell d i.1) 125 (0,0))] (w.alloc (cT #[A C id] 3)):=((Blk.nil ((bF _ _).alloc (Nat.le_refl _) _)).cons ((heap_alloc_old _ _ hD.lt).trans hD)).cons (heap_alloc_new w _);go_enter Tryz.func72,Tryz.ntmps72;go_upto_region 1 with fail
 generalize w.alloc (cT #[A C id] 3)=w0 at hK0⊢;have hF:=zQs B k w.heap.size hk d id w0 (hK0.2 _ (mcO _ mcS)) h8 (hK0.2 _ mcS);rw[HN.out]at hF;have z1:(((d.g k).ps.length:Int)==((d.g k).ps.length:Int))=true:=by simp
 go_upto_region 2 with(first|(go_at_call 67;refine hF.mono ?_;rintro e w3 ⟨rfl,hb3⟩;have hK3:=hK0.later hb3;clear hK0 hb3)|fail)
 have cN:=z27 (hK3.2 _ (mcO _ mcS)) hk;go_wp2_with fail;exact bodyPost_ret (v:= .tuple #[A C 0,.iface 33 (A C 7)]) (by simp[results,Tryz.results72,go_sem, *]) rfl ⟨rfl,hK3.1⟩
theorem zFp(tmps:Array Value)(w':World)(g:Nat)(cs:Array Value)(er:Value)(h4:tmps.getD 4 undef= pT (some ⟨g,0,none⟩))(h5:tmps.getD 5 undef=er)(hg:w'.heap[g]?=some (cT cs 77 (0,0)))(hs:cs.size=16):
  (results Tryz.f43 tmps).run tP w'= .ok (.tuple #[.agg cs,er]) w':=by
 have h4':tmps[4]?.getD undef= pT (some ⟨g,0,none⟩):=by simpa using h4
 have h5':tmps[5]?.getD undef=er:=by simpa using h5
 have hl:=run_loadVar_row (P:=tP) w' g 77 77 cs (0,0) _ hg Tryz.underlying77 rfl (by rw[Tryz.info55,hs]);simp[results,Tryz.results43,asAddr,h4',h5',hl]
theorem zUc(B k:Nat)(hk:k<3)(d:Dsk)(id:Int)(w:World)(hD:z0f w B d)(h8:(d.g k).ps.length<=8)(HN:Hid (((d.g k).ps.findIdx fun p=>p.id==id)=(d.g k).ps.length)):zR 43 #[pT (some ⟨B,k*317,none⟩),A C id] w (.tuple #[.agg zero16,.iface 33 (A C 7)]):=by
 have hK0:Blk w [(w.heap.size,cT zero16 77 (0,0)),(B,cT (Array.ofFn (n:=952) fun i=>Dsk.cell d i.1) 125 (0,0))] (w.alloc (cT zero16 77)):=((Blk.nil ((bF _ _).alloc (Nat.le_refl _) _)).cons ((heap_alloc_old _ _ hD.lt).trans hD)).cons (heap_alloc_new w _);go_enter Tryz.func43,Tryz.ntmps43;go_upto_region 1 with fail
 change Code.wp _ _ _ _ (w.alloc (cT zero16 77))
 generalize w.alloc (cT zero16 77)=w0 at hK0⊢;have hF:=zAy B k hk d id w0 (hK0.2 _ (mcO _ mcS)) h8 HN;go_upto_region 3 with(first|(go_at_call 72;refine hF.mono ?_;rintro e w3 ⟨rfl,hb3⟩;have hK3:=hK0.later hb3;clear hK0 hb3)|fail)
 go_step
 (refine z00 rfl (.agg zero16) w3 kG ?_);simp only[pS]
 (refine z00 rfl (.iface 33 (A C 7)) w3 kG ?_);simp only[pS]
 refine wpList_store_row rfl 77 (.tmp 4) (.tmp 16) rfl w.heap.size zero16 rfl rfl 77 zero16 (hK3.2 _ mcS) Tryz.info55 rfl (z9j _) ?_;simp only[pS];have hr:=setRow_heap w3 w.heap.size zero16 zero16 77 (0,0) (hK3.2 _ mcS);have hb:=z23 hK3.1 (Nat.le_refl _) zero16;go_wp2_with fail;exact bodyPost_ret (v:= .tuple #[.agg zero16,.iface 33 (A C 7)]) (zFp _ _ w.heap.size _ _ rfl rfl hr rfl) rfl ⟨rfl,hb⟩
theorem zP6(B k:Nat)(hk:k<3)(d:Dsk)(id:Int)(w:World)(hD:z0f w B d)(h8:(d.g k).ps.length<=8)(HN:Hid (((d.g k).ps.findIdx fun p=>p.id==id)=(d.g k).ps.length)):zR 49 #[pT (some ⟨B,k*317,none⟩),A C id] w (.iface 33 (A C 7)):=by
 have hF:=zAy B k hk d id w hD h8 HN;go_enter Tryz.func49,Tryz.ntmps49;go_wp2_with(first|(go_at_call 72;refine hF.mono ?_;rintro e w3 ⟨rfl,hb3⟩)|fail);go_ret;exact⟨rfl,hb3⟩
theorem zKf(B k:Nat)(hk:k<3)(d:Dsk)(id:Int)(l:Value)(w:World)(hD:z0f w B d)(h8:(d.g k).ps.length<=8)(HN:Hid (((d.g k).ps.findIdx fun p=>p.id==id)=(d.g k).ps.length)):zR 53 #[pT (some ⟨B,k*317,none⟩),A C id,l] w (.iface 33 (A C 7)):=by
 have hF:=zAy B k hk d id w hD h8 HN;go_enter Tryz.func53,Tryz.ntmps53;go_wp2_with(first|(go_at_call 72;refine hF.mono ?_;rintro e w3 ⟨rfl,hb3⟩)|fail);go_ret;exact⟨rfl,hb3⟩
end
theorem z78(j:Nat):Value.int .i64 ((j:Int)+1)=A C ((j+1:Nat):Int):=rfl
theorem zWv(w:World)(old cs:Array Value)(t:TypeId):Below w.heap.size w ((w.alloc (cT old t)).setRow w.heap.size cs)/\((w.alloc (cT old t)).setRow w.heap.size cs).heap[w.heap.size]?=some (cT cs t (0,0)):=
 ⟨z23 ((bF _ _).alloc (Nat.le_refl _) _) (Nat.le_refl _) _,setRow_heap _ _ old cs t (0,0) (heap_alloc_new _ _)⟩
def dnZ:Array Value:=#[A C 0,A C 0,A C 0,.slice none 0 0,A C 0]
theorem dn_one{y:Dn}(h:y.v.oneCell'=true):y.cells.toArray.all (·.oneCell')=true:=by
 unfold Dn.cells;simpa[Value.oneCell']using h
section
attribute [local simp] z05 z0a z06
theorem z59{w w':World}{base n z:Nat}{e:TypeId}{v:Value}{xs:List Value}(h:w.ownsRow base e z v n xs)(hb:Below w.heap.size w w'):w'.ownsRow base e z v n xs:=
 World.ownsRow.kept h (z0d hb w.heap.size) (Or.inr fun e=>by have:=(World.ownsRow.lt h _ e).2;omega)
section
variable {w:World} {Ba Bb:Nat} {da db:Dsk} {M:Int} {c b0 b1:Nat} {vd:Value} {ds:List Dn} {q:Nat} {v:Value} {wr:World}
end
end
section
attribute [local simp] z05 z0a z06
theorem q2y{w:World}{B k i:Nat}{d:Dsk}(hD:z0f w B d)(hk:k<3)(hi:i<8):w.rangeAt B (k*317+i*19) (pgCs ((d.g k).ps.getD i pg0)).toList:=fun j v hv=>by
 have hj:j<19:=by have:=(List.getElem?_eq_some_iff.1 hv).1;simpa[pgCs]using this
 have e:=zId ((d.g k).ps.getD i pg0) hj;rw[List.getD_eq_getElem?_getD,hv]at e;rw[z6d hD hk hi hj, <-e];rfl
theorem q3z{p:Pg}(h:p.sl.oneCell'=true):(pgCs p).all (·.oneCell')=true:=by
 unfold pgCs;simpa[Value.oneCell']using h
theorem Tryz.infoInt:(Tryz.prog.info? 3).map (fun i=>(i.zero,i.size,i.bytes))=some (some (A C 0),1,8):=kR
theorem q2f{ps:List Pg}{j:Nat}(h:j<ps.length):(ps.take (j+1)).map (fun p=>Value.int .i64 p.id)=(ps.take j).map (fun p=>Value.int .i64 p.id)++[A C (ps.getD j pg0).id]:=by
 rw[List.take_add_one,List.getElem?_eq_getElem h,List.map_append,List.getD_eq_getElem?_getD,List.getElem?_eq_getElem h];rfl
theorem zNm(B k:Nat)(hk:k<3)(d:Dsk)(M:Int)(w:World)(HD:Hid (DOk w B d M)):Calls tP 52 #[pT (some ⟨B,k*317,none⟩)] w fun e w'=> ∃v,e= rT v/\Below w.heap.size w w'/\w'.ownsRow w.heap.size 3 1 v (d.g k).ps.length ((d.g k).ps.map fun p=>A C p.id):=by
 have hB:=HD.out.at_.lt;obtain⟨n,HN⟩: ∃n,Hid ((d.g k).ps.length=n):=⟨_,rfl⟩;have h8:n<=8:=by have:=HD.out.few k hk;rw[HN.out]at this;exact this
 have cN:=z27 HD.out.at_ hk;rw[HN.out]at cN;have HS:Hid (Below w.heap.size w w/\w.ownsRow w.heap.size 3 1 (.slice none 0 0) 0 (((d.g k).ps.take 0).map fun p=>A C p.id)):=⟨bF _ _,World.ownsRow_nil _ _ _ _⟩;have hn0:(0:Int)<=(n:Int):=kO;have hn1:(n:Int)<=8:=kO;go_enter Tryz.func52,Tryz.ntmps52;go_upto_region 2 with fail
 go_cut [13,14,15] (fun s c j wx=>s= .slice (some ⟨B,k*317,none⟩) n 8/\c=A C n/\j=A C 0/\Below w.heap.size w wx)
 case first=>
  go_quiet (fail)
  go_wp2_with fail;go_meet;exact⟨rfl,rfl,rfl,below_drewN (bF _ _) nq⟩
 obtain⟨rfl,rfl,rfl,hbc⟩:=hcut;have HS:Hid (Below w.heap.size w wc/\wc.ownsRow w.heap.size 3 1 (.slice none 0 0) 0 (((d.g k).ps.take 0).map fun p=>A C p.id)):=⟨hbc,World.ownsRow_nil _ _ _ _⟩;clear hbc cN;go_wp2_with fail;go_loopw [3,15] (fun iv jv wr=> ∃j:Nat,jv=A C j/\j<=n/\Hid (Below w.heap.size w wr/\wr.ownsRow w.heap.size 3 1 iv j (((d.g k).ps.take j).map fun p=>A C p.id))) (fun _ jv _=>n-(intOf jv).toNat)
 case atStart=>exact⟨0,rfl,Nat.zero_le _,HS.out⟩
 case round=>as_aux_lemma=>
  clear HS;obtain⟨j,rfl,hjn,HQ⟩:=hrel;have hj0:(0:Int)<=(j:Int):=kO
  by_cases hj:j<n
  ·have hj':(j:Int)<(n:Int):=kO
   have hD:=HD.out.later HQ.out.1;have hrow:=q2y hD.at_ hk (show j<8 by omega);obtain⟨p,HP⟩: ∃p,Hid ((d.g k).ps.getD j pg0=p):=⟨_,rfl⟩;have hjl:j<(d.g k).ps.length:=by rw[HN.out];exact hj
   have hp1:p.sl.oneCell'=true:=by rw[<-HP.out];exact HD.out.one k hk _ (zQq pg0 hjl)
   have hid:=q2f hjl;rw[HP.out]at hrow hid;go_upto_region 4 with fail
   go_step
   (refine z00 rfl (pT (some ⟨B,k*317+j*19,none⟩)) wr kG ?_);simp only[pS]
   refine wpList_load_mid rfl 116 (.tmp 17) rfl B (k*317+j*19) rfl (pgCs p).toList _ hrow Tryz.underlying116 rfl kR ?_;rw[Array.toArray_toList];simp only[pS]
   (refine z00 rfl (pT (some ⟨wr.heap.size,0,none⟩)) (wr.alloc (cT (pgCs pg0) 116)) kG ?_);simp only[pS]
   refine wpList_store_row rfl 116 (.tmp 5) (.tmp 18) rfl wr.heap.size (pgCs p) rfl rfl 116 (pgCs pg0) (heap_alloc_new wr _) kR rfl (q3z hp1) ?_;simp only[pS];obtain⟨hb6,hx6⟩:=zWv wr (pgCs pg0) (pgCs p) 116;have HQ6:Hid (Below w.heap.size w ((wr.alloc (cT (pgCs pg0) 116)).setRow wr.heap.size (pgCs p))/\((wr.alloc (cT (pgCs pg0) 116)).setRow wr.heap.size (pgCs p)).ownsRow w.heap.size 3 1 u3 j (((d.g k).ps.take j).map fun p=>A C p.id)):=⟨HQ.out.1.trans (hb6.mono HQ.out.1.size),z59 HQ.out.2 hb6⟩;clear hb6 HQ hrow hD;generalize (wr.alloc (cT (pgCs pg0) 116)).setRow wr.heap.size (pgCs p)=w6 at hx6 HQ6⊢;generalize wr.heap.size=g2 at hx6⊢;have p0:w6.cell? ⟨g2,0,none⟩=some (A C p.id):=(cell_of_row w6 g2 0 _ _ _ hx6).trans rfl;go_upto_region 5 with fail
   go_step
   (refine z00 rfl (u3) w6 kG ?_);simp only[pS]
   (refine z00 rfl (pT (some ⟨g2,0,none⟩)) w6 kG ?_);simp only[pS]
   (refine z00 rfl (A C p.id) w6 kG ?_);simp only[pS]
   obtain⟨i0,hi0,hz0,hz1,hz2⟩:=info_parts Tryz.infoInt;refine wpList_buildSlice rfl 93 3 1 #[(0,.tmp 21)] rfl #[A C p.id] i0 _ Tryz.underlying93 hi0 hz0 (by rw[hz1];omega) (by rw[hz1];omega) (by rw[hz1];kernel_rfl) ?_;simp only[pS];have HQ7:Hid (Below w.heap.size w (w6.alloc (cT #[A C p.id] 3))/\(w6.alloc (cT #[A C p.id] 3)).ownsRow w.heap.size 3 1 u3 j (((d.g k).ps.take j).map fun p=>A C p.id)):=⟨HQ6.out.1.alloc HQ6.out.1.size _,HQ6.out.2.alloc _⟩;refine wpList_append_own (w6.alloc (cT #[A C p.id] 3)) rfl (.tmp 19) (.tmp 22) 93 rfl w.heap.size 3 i0 _ 1 8 Tryz.underlying93 hi0 hz0 hz1 hz2 rfl kD _ _ _ rfl HQ7.out.2 ⟨w6.heap.size,0,none⟩ 1 1 [A C p.id] rfl rfl (z5j w6 #[A C p.id] 3) (by intro u hu;rw[List.mem_singleton.1 hu];rfl) (by unfold maxLen;omega) kO HQ7.out.1.size ?_;intro v8 w8 ho8 hg8 _;simp only[pS];have HQ8:Hid (Below w.heap.size w w8/\w8.ownsRow w.heap.size 3 1 v8 (j+1) (((d.g k).ps.take (j+1)).map fun p=>A C p.id)):=⟨⟨hg8.os.trans HQ7.out.1.os,hg8.tape.trans HQ7.out.1.tape,hg8.output.trans HQ7.out.1.output,Nat.le_trans HQ7.out.1.size hg8.size,fun b hb=>(hg8.block b (Nat.lt_of_lt_of_le hb HQ7.out.1.size) fun e=>by have:=(World.ownsRow.lt HQ7.out.2 b e.symm).1;omega).trans (HQ7.out.1.block b hb)⟩,by rw[hid];exact ho8⟩;clear HQ7 HQ6 ho8 hg8 hx6 p0 hid;go_wp2_with fail;exact⟨⟨j+1,z78 j,by omega,HQ8.out⟩,by show n-((j:Int)+1).toNat<n-(j:Int).toNat;omega⟩
  ·have hj': ¬((j:Int)<(n:Int)):=kO
   have hqb:decide ((j:Int)<(n:Int))=false:=decide_eq_false hj';have ho:=HQ.out.2;have hbw:=HQ.out.1;rw[List.take_of_length_le (show(d.g k).ps.length<=j by rw[HN.out];omega),show j=n by omega, <-HN.out]at ho;clear HQ;go_wp2_with fail;go_ret;exact⟨_,rfl,hbw,ho⟩
end
end Go.Proofs.YtkdflpplamebkaaGreatDoor
