/-
A part of the proof of DeskPieces; its card says what is proved.
-/
import Derived.Test.YtkdflpplamebkaaGreatDoorJp35
import Derived.RegionDies
set_option maxHeartbeats 40000000
open Go.Value renaming int → A
open Go.IntKind renaming i64 → F
open Go.RowKit.Below renaming alloc → bA, setCell → bS, drew → bD, refl → bF
set_option maxRecDepth 1000000
set_option linter.defProp false
set_option linter.unusedVariables false
set_option linter.unusedSimpArgs false
open Go.Ending renaming returned → rT
open Go.Value renaming pointer → pT
open Go.Obj renaming cells → cT
open Go.Proofs.Tryz renaming prog → tP
open List renaming take_succ_cons → lQ, take_zero → lX, drop_succ_cons → lY, drop_zero → lZ, length_nil → lJ
namespace Go.Proofs.YtkdflpplamebkaaGreatDoor
open Go.ChangeShapes Go.WideShapes Go.ChangeAt Go.RowKit
section
section
variable {H:Type} {enc:TypeId×Value->H} {w:World}
end
end
section
def mkB(l:List UInt8):ByteArray:=⟨l.toArray⟩
theorem z30(l:List UInt8):(mkB l).data.toList=l:=by simp[mkB]
theorem q42(b:ByteArray):mkB b.data.toList=b:=by simp[mkB]
theorem z6t{a b:ByteArray}(h:a.data.toList=b.data.toList):a=b:=by rw[<-q42 a, <-q42 b,h]
theorem z87(s:ByteArray)(a b:Nat):(s.extract a b).data.toList=(s.data.toList.drop a).take (b-a):=by
 simp[ByteArray.data_extract,List.extract]
theorem zIr(s:ByteArray):s.size=s.data.toList.length:=Lib.size_eq s
variable {ex:Ext}
section
variable {len:Nat} {C D S O N:Nat->Int} {R:Nat->Bool}
end
section
variable {bk off len cap:Nat} {C D S O N:Nat->Int} {R:Nat->Bool} {w:World}
end
end
section
section
variable (x:St)
end
end
section
def zXk(ws:List ByteArray):List (List UInt8):=ws.map (·.data.toList)
theorem zTl(w0:ByteArray)(ws:List ByteArray)(sep:ByteArray):(z5b (w0::ws) sep).data.toList=w0.data.toList++Lib.joinTail sep.data.toList (zXk ws):=by
 unfold z5b;show(mkB (Lib.join _ _)).data.toList=_;rw[z30,List.map_cons,Lib.join_cons];rfl
section
variable {w0:ByteArray} {ws:List ByteArray}
end
section
variable {c d s:Int} {r:Bool} {o n:Int}
end
section
variable {len:Nat} {C D S O N:Nat->Int} {R:Nat->Bool}
end
end
section
variable {len:Nat} {C D S O N:Nat->Int} {R:Nat->Bool}
end
section
section
variable {len:Nat} {C D S O N:Nat->Int} {R:Nat->Bool} {ps:List ByteArray}
end
end
def St.Fine(x:St):Prop:=Fits x.o/\Fits x.n
theorem fits_zero:Fits 0:=⟨by decide,by decide⟩
theorem zLu(b:ByteArray):Fits ((z2y b).getD 0):=by
 cases e:z2y b with
 |none=>exact fits_zero
 |some n=>exact(zB4 e).1
theorem zH5(b:ByteArray):Fits ((placeOf b).getD (0,0)).2:=by
 cases e:placeOf b with
 |none=>exact fits_zero
 |some q=>
  unfold placeOf at e;split at e
  ·split at e
   ·rename_i r n _ hn
    cases e;exact(zB4 hn).1
   ·cases e
  ·cases e
theorem zZ7(b:ByteArray):callOf b<4:=by
 unfold callOf
 cases h:(List.range 4).find? fun k:Nat=>decide (zFr k=b)with
 |none=>decide
 |some k=>exact List.mem_range.1 (List.mem_of_find?_eq_some h)
theorem zY6(b:ByteArray):Fits ((callOf b:Nat):Int):=by
 have:=zZ7 b;exact⟨by omega,by omega⟩
theorem q1i(x:St)(p:Nat)(b:ByteArray)(h:x.Fine):(x.put p b).2.Fine:=by
 unfold St.put;split
 ·exact h
 split
 ·split
  ·exact h
  ·exact⟨h.1,zLu b⟩
 split
 ·exact⟨zLu b,h.2⟩
 split
 ·exact⟨zH5 b,h.2⟩
 split
 ·exact⟨zH5 b,h.2⟩
 exact⟨h.1,zY6 b⟩
theorem putAll_fine: ∀(ps:List UInt8)(bs:List ByteArray)(x y:St),x.Fine->z7f x ps bs=some y->y.Fine
 |[],bs,x,y,h,e=>by
  have e':some x=some y:=by simpa[z7f]using e
  cases e';exact h
 |p::ps,[],x,y,h,e=>by
  have e':some x=some y:=by simpa[z7f]using e
  cases e';exact h
 |p::ps,b::bs,x,y,h,e=>by
  rw[z7f]at e;split at e
  ·exact putAll_fine ps bs _ y (q1i x _ b h) e
  ·cases e
theorem zS0{p:ByteArray}{x:St}(h:z3n p=some x):x.Fine:=by
 unfold z3n at h
 cases e:(z0z p).take 5 with
 |nil=>rw[e]at h;cases h
 |cons b bs=>
  rw[e,z92]at h;split at h
  ·cases h
  ·exact putAll_fine _ _ _ _ ⟨fits_zero,fits_zero⟩ h
theorem zJs(ps:List ByteArray)(j:Nat):(nth (z34 ps) j).Fine:=by
 unfold nth z34;rw[List.getElem?_map]
 cases e:ps[j]? with
 |none=>exact⟨fits_zero,fits_zero⟩
 |some p=>
  show((z3n p).getD St.zero).Fine
  cases e2:z3n p with
  |none=>exact⟨fits_zero,fits_zero⟩
  |some x=>exact zS0 e2
section
attribute [local simp] z05 z0a z06
variable {ex:Ext}
def ErrV(w:World)(v:Value)(c:Int):Prop:=v= .iface 33 (A F c)\/ ∃p,v= .iface 166 (pT (some ⟨p,0,none⟩))/\p<w.heap.size/\w.cell? ⟨p,0,none⟩=some (A F c)
theorem ErrV.later{w w':World}{v:Value}{c:Int}(h:ErrV w v c)(hb:Below w.heap.size w w'):ErrV w' v c:=by
 rcases h with h|⟨p,h1,h2,h3⟩
 ·exact Or.inl h
 exact Or.inr ⟨p,h1,Nat.lt_of_lt_of_le h2 hb.size,(hb.cell (p:=⟨p,0,none⟩) h2).trans h3⟩
theorem ErrV.at_{w:World}{v:Value}{c:Int}(h:ErrV w v c): ∃t u,v= .iface t u:=by
 rcases h with h|⟨p,h1, -⟩
 ·exact⟨_,_,h⟩
 exact⟨_,_,h1⟩
theorem z5m{w:World}{v:Value}{c:Int}(hg:z0p w)(h:ErrV w v c):zR 77 #[v] w (A F c):=by
 rcases h with rfl|⟨p,rfl,h2,h3⟩
 ·exact z8a c w hg
 exact q4s c ⟨p,0,none⟩ w hg h3 h2
theorem q1p{w:World}{v:Value}{c:Int}(hg:z0p w)(h:ErrV w v c):Calls tP 48 #[v] w fun e w'=>e=z2c c/\Below w.heap.size w w':=by
 obtain⟨t,u,rfl⟩:=h.at_;exact z4z t u c w (z5m hg h)
theorem zHx(a:Value){w:World}{v:Value}{c:Int}(hg:z0p w)(h:ErrV w v c):Calls tP 35 #[a,v] w fun e w'=>e=z2c c/\Below w.heap.size w w':=by
 obtain⟨t,u,rfl⟩:=h.at_;exact zHw a t u c w (z5m hg h)
theorem zJz(a:Value){w:World}{v:Value}{c:Int}(hg:z0p w)(h:ErrV w v c):Calls tP 39 #[a,v] w fun e w'=>e=z2c c/\Below w.heap.size w w':=by
 obtain⟨t,u,rfl⟩:=h.at_;exact zJy a t u c w (z5m hg h)
theorem zEy(a:Value){w:World}{v:Value}{c:Int}(hg:z0p w)(h:ErrV w v c):Calls tP 70 #[a,v] w fun e w'=>e=z2c c/\Below w.heap.size w w':=by
 obtain⟨t,u,rfl⟩:=h.at_;exact zEx a t u c w (z5m hg h)
theorem zEw(cs:Array Value){w:World}{v:Value}{c:Int}(hg:z0p w)(h:ErrV w v c):Calls tP 42 #[.agg cs,v] w fun e w'=>e=z2c c/\Below w.heap.size w w':=by
 obtain⟨t,u,rfl⟩:=h.at_;exact zEv cs t u c w fun W hW=>z5m (hg.later hW) (h.later hW)
theorem zF1(cs:Array Value){w:World}{v:Value}{c:Int}(hg:z0p w)(h:ErrV w v c):Calls tP 46 #[.agg cs,v] w fun e w'=>e=z2c c/\Below w.heap.size w w':=by
 obtain⟨t,u,rfl⟩:=h.at_;exact zF0 cs t u c w fun W hW=>z5m (hg.later hW) (h.later hW)
theorem z5w(cs:Array Value){w:World}{v:Value}{c:Int}(hg:z0p w)(h:ErrV w v c):Calls tP 56 #[.agg cs,v] w fun e w'=>e=z2c c/\Below w.heap.size w w':=by
 obtain⟨t,u,rfl⟩:=h.at_;exact zJx cs t u c w fun W hW=>z5m (hg.later hW) (h.later hW)
theorem zIg{w:World}{B:Nat}{t:TypeId}{a:Option Addr}{c:Nat}{xs:List Int}(h:w.ownsRow B t 1 (.slice a xs.length c) xs.length (xs.map (Value.int .i64))):z19 w a xs:=by
 rcases rowShape h with⟨-,e⟩|⟨g,c',e⟩
 ·exact Or.inl e
 injection e with e1 e2 e3
 subst e1;refine Or.inr ⟨g,0,rfl,(World.ownsRow.lt h g rfl).2,fun i hi=>?_⟩;rw[Nat.zero_add,World.ownsRow.cellAt h i (by simpa using hi),List.getElem?_map,List.getElem?_eq_getElem hi,List.getD_eq_getElem?_getD,List.getElem?_eq_getElem hi];rfl
structure Rdy (xs:List St):Prop where
 some:1<=xs.length
 few:xs.length<=200
 right: ∀j,j<xs.length->z3p xs j=0
 nums: ∀j,j<xs.length->In64 (nth xs j).o/\In64 (nth xs j).n
def z2b(s:ByteArray):List St⊕Int:=
 if(z0l s).all (fun y=>(z3n y).isSome)=true then
  if 200<(z0l s).length then .inr 4 else
  match (List.range (z0l s).length).find? (fun i=>z3p (z34 (z0l s)) i !=0)with
  |some i=> .inr (z3p (z34 (z0l s)) i)
  |none=> .inl (z34 (z0l s))
 else .inr 3
theorem q2p{f:Nat->Int}{n:Nat}(h: ∀j,j<n->f j=0):(List.range n).find? (fun i=>f i !=0)=none:=by
 rw[List.find?_eq_none];intro x hx;simp[h x (List.mem_range.1 hx)]
theorem q2o{f:Nat->Int}{n i:Nat}(hi:i<n)(h: ∀j,j<i->f j=0)(hf:f i≠0):(List.range n).find? (fun i=>f i !=0)=some i:=by
 rw[List.find?_range_eq_some];exact⟨by simp[hf],List.mem_range.2 hi,fun j hj=>by simp[h j hj]⟩
theorem zM1{w W:World}{s:ByteArray}{e:Ending}(h:zRf w s e W):Below w.heap.size w W/\((∃xs l,z2b s= .inl xs/\Rdy xs/\e= rT (.tuple #[l,.nilIface])/\LsAt W l xs)\/ ∃c l v,z2b s= .inr c/\e= rT (.tuple #[l,v])/\ErrV W v c):=by
 obtain⟨hb,h⟩:=h;refine⟨hb,?_⟩;rcases h with⟨pre,x,post,p,hps,_,hx,rfl,hp,hc,_⟩|⟨hall,h⟩
 ·refine Or.inr ⟨3,_,_,?_,rfl,Or.inr ⟨p,rfl,hp,hc⟩⟩
  unfold z2b;rw[if_neg];rw[List.all_eq_true];intro hh;have:=hh x (by rw[hps];simp);rw[hx]at this
  cases this
 have ha:(z0l s).all (fun y=>(z3n y).isSome)=true:=List.all_eq_true.2 hall;have hl:=z4o (z0l s);rcases h with⟨h200,rfl⟩|⟨h200,h⟩
 ·refine Or.inr ⟨4,_,_,?_,rfl,Or.inl rfl⟩
  unfold z2b;rw[if_pos ha,if_pos h200]
 rcases h with⟨i,p,hi,hno,hf,rfl,hp,hc,_⟩|⟨hno,g,cap,rfl,hrow⟩
 ·refine Or.inr ⟨_,_,_,?_,rfl,Or.inr ⟨p,rfl,hp,hc⟩⟩
  unfold z2b;rw[if_pos ha,if_neg kO,q2o hi hno hf]
 have hn: ∀j,j<(z34 (z0l s)).length->In64 (nth (z34 (z0l s)) j).o/\In64 (nth (z34 (z0l s)) j).n:=fun j _=>zJs (z0l s) j;have hp:0<(z0l s).length:=z94 _ _;refine Or.inl ⟨z34 (z0l s),_,?_,⟨by omega,by omega,(by rw[hl];exact hno),hn⟩,rfl,⟨_,cap,by rw[hl],Or.inr ⟨g,0,rfl,zKd hrow,by rw[hl];exact z7s hrow hl⟩⟩,hn⟩;unfold z2b;rw[if_pos ha,if_neg kO,q2p hno]
theorem zWe(he: ∀w,ex.holds w->z17 w)(hu: ∀w,ex.holds w->Lib.Utf8Tabs 2 3 w){s:ByteArray}{xs:List St}(h:z2b s= .inl xs)(hs:s.size<=100000)(w:World)(hT:Tabs ex w):Calls tP 71 #[.string s] w fun e w'=> ∃l,e= rT (.tuple #[l,.nilIface])/\Below w.heap.size w w'/\LsAt w' l xs/\Rdy xs:=
 (zQ3 he hu s hs w hT).mono fun e w' hr=>by
  obtain⟨hb,⟨ys,l,h1,h2,h3,h4⟩|⟨c,l,v,h1, -⟩⟩:=zM1 hr
  ·rw[h]at h1;cases h1
   exact⟨l,h3,hb,h4,h2⟩
  ·rw[h]at h1;cases h1
theorem q1e(he: ∀w,ex.holds w->z17 w)(hu: ∀w,ex.holds w->Lib.Utf8Tabs 2 3 w){s:ByteArray}{c:Int}(h:z2b s= .inr c)(hs:s.size<=100000)(w:World)(hT:Tabs ex w):Calls tP 71 #[.string s] w fun e w'=> ∃l v,e= rT (.tuple #[l,v])/\Below w.heap.size w w'/\ErrV w' v c:=
 (zQ3 he hu s hs w hT).mono fun e w' hr=>by
  obtain⟨hb,⟨ys,l,h1, -⟩|⟨c',l,v,h1,h2,h3⟩⟩:=zM1 hr
  ·rw[h]at h1;cases h1
  ·rw[h]at h1;cases h1
   exact⟨l,v,h2,hb,h3⟩
theorem go_ends{C D S:Nat->Int}{R:Nat->Bool}{O N:Nat->Int}{len:Nat}(hr: ∀i,i<len->zUm (C i) (D i) (S i) (R i) (O i) (N i) len i)(hf: ∀i,i<len->In64 (O i)/\In64 (N i)):
  ∀(f:Nat)(st:List (Nat×Way))(ends E:List Kno),goF C D S R O N f st ends= .inr E->(∀x,x∈st->x.1<len/\x.2.Ok)->(∀b,b∈ends->b.Ok)-> ∀b,b∈E->b.Ok:=by
 intro f;induction f with
 |zero=>
  intro st ends E h _ he
  cases st with
  |nil=>rw[goF]at h;cases h;exact he
  |cons x st=>rw[goF]at h;exact absurd h kS
 |succ f ih=>
  intro st ends E h hst he
  cases st with
  |nil=>rw[goF]at h;cases h;exact he
  |cons x st=>
   obtain⟨hx1,hx2⟩:=hst x mcS;have r:=hr x.1 hx1;have d1:=r.d1;have d2:=r.d2;have s1:=r.s1;have s2:=r.s2;rw[goF]at h
   by_cases h0:(x.2.look (C x.1) (D x.1).toNat (S x.1).toNat (R x.1) (O x.1) (N x.1)).2≠0
   ·rw[if_pos h0]at h;exact absurd h kS
   rw[if_neg h0]at h;refine ih _ _ E h (fun z hz=>?_) fun b hb=>?_
   ·rcases List.mem_append.mp hz with hz|hz
    ·obtain⟨u,hu,rfl⟩:=List.mem_map.mp hz
     obtain⟨u1,u2⟩:=zKs u hu;have hl:=r.last u1;refine⟨?_,zXg hx2 r.c1 r.c2 kO kO (hf x.1 hx1).1 (hf x.1 hx1).2 u hu⟩;show x.1+1+u.1.toNat<len;rcases u2 with u2|⟨u2,u3⟩
     ·omega
     ·have:=r.lead u3;omega
    ·exact hst z (mcO _ hz)
   ·split at hb
    ·rcases List.mem_append.mp hb with hb|hb
     ·exact he b hb
     ·rw[List.mem_singleton.mp hb];exact hx2.reg 0 kD
    ·exact he b hb
theorem zL2(f:Nat->Int×Int)(h: ∀i,In64 (f i).1/\In64 (f i).2): ∀k,In64 (z1i f k).1/\In64 (z1i f k).2
 |0=>show In64 0/\In64 0 from⟨⟨by decide,by decide⟩,⟨by decide,by decide⟩⟩
 |1=>by rw[zGq];exact h 0
 |k+2=>by
  rw[z98 f (show k+1≠0 by omega)];have h1:=zL2 f h (k+1);have h2:=h (k+1);unfold In64 at*;dsimp only;omega
theorem q62{es:List Kno}(h: ∀b,b∈es->b.Ok):In64 (z1i (z88 es) es.length).1/\In64 (z1i (z88 es) es.length).2:=by
 refine zL2 _ (fun i=>?_) _;unfold z88
 have:(es.getD i kno0).Ok:=by
  rw[List.getD_eq_getElem?_getD]
  cases e:es[i]? with
  |none=>exact z7v
  |some b=>exact h b (List.mem_of_getElem? e)
 exact⟨this.2.2.1,this.2.2.2.1⟩
def z7n(xs:List St):(Int×Int)⊕Int:=
 match goL xs with
 | .inl x=> .inr x.1
 | .inr es=> .inl (z1i (z88 es) es.length)
theorem zV3{xs:List St}{p:Int×Int}(h:z7n xs= .inl p): ∃es,goL xs= .inr es/\p=z1i (z88 es) es.length:=by
 unfold z7n at h;split at h
 ·cases h
 rename_i es e
 cases h;exact⟨es,e,rfl⟩
theorem q3t{xs:List St}{c:Int}(h:z7n xs= .inr c): ∃i,goL xs= .inl (c,i):=by
 unfold z7n at h;split at h
 ·rename_i x e
  cases h;exact⟨x.2,e⟩
 cases h
theorem zOb{xs:List St}{p:Int×Int}(hx:Rdy xs)(h:z7n xs= .inl p):Lets xs:=by
 obtain⟨es,e, -⟩:=zV3 h;exact⟨hx.some,hx.few,hx.right,es,e⟩
theorem q3u{xs:List St}{p:Int×Int}(hx:Rdy xs)(h:z7n xs= .inl p):In64 p.1/\In64 p.2:=by
 obtain⟨es,e,rfl⟩:=zV3 h;exact q62 (go_ends (fun i hi=>z8e (hx.right i hi)) hx.nums 4000 _ _ es e (fun x hx'=>by rw[List.mem_singleton.mp hx'];exact⟨hx.some,zUu⟩) (fun b hb=>absurd hb kS))
theorem LsAt.open_{W:World}{l:Value}{xs:List St}(h:LsAt W l xs)(hx:Rdy xs): ∃bk off cap,l= .slice (some ⟨bk,off,none⟩) xs.length cap/\bk<W.heap.size/\z1v W bk off xs.length (fun j=>(nth xs j).c) (fun j=>(nth xs j).d) (fun j=>(nth xs j).s) (fun j=>(nth xs j).r) (fun j=>(nth xs j).o) (fun j=>(nth xs j).n):=by
 obtain⟨a,cap,e,h0⟩:=h.lies;obtain⟨bk,off,rfl,hb,hs⟩:=h0.resolve_left (by have:=hx.some;omega);exact⟨bk,off,cap,e,hb,hs⟩
theorem q0l{xs:List St}{p:Int×Int}(hx:Rdy xs)(h:z7n xs= .inl p){W:World}{l:Value}(hl:LsAt W l xs):zR 47 #[l] W (.tuple #[.agg #[A F p.1,A F p.2],.nilIface]):=by
 obtain⟨es,e,rfl⟩:=zV3 h;obtain⟨bk,off,cap,rfl,hb,hs⟩:=hl.open_ hx;exact zCu bk off xs.length cap _ _ _ _ _ _ W hx.some hx.few hb hs hx.right hx.nums es e
theorem zN1{xs:List St}{c:Int}(hx:Rdy xs)(h:z7n xs= .inr c){W:World}{l:Value}(hl:LsAt W l xs):Calls tP 47 #[l] W fun e w'=> ∃v,e= rT (.tuple #[.agg #[A F 0,A F 0],v])/\Below W.heap.size W w'/\ErrV w' v c:=by
 obtain⟨i,e⟩:=q3t h;obtain⟨bk,off,cap,rfl,hb,hs⟩:=hl.open_ hx;exact(zRt bk off xs.length cap _ _ _ _ _ _ W hx.some hx.few hb hs hx.right hx.nums c i e).mono fun e w' ⟨p,g1,g2,_,g4,g5,_⟩=>⟨_,g1,g2,Or.inr ⟨p,rfl,g4,g5⟩⟩
def zF3(xs:List St)(T K:Nat->Int)(time:Int):Rn⊕Int:=
 match runL xs T K time with
 | .inl x=> .inr x.1
 | .inr x=> .inl ⟨x.1,x.2.2.cel,x.2.2.out,(x.2.1:Int)⟩
structure RnOk (r:Rn):Prop where
 num:In64 r.num
 steps:In64 r.steps
 room:r.out.length<=50
 out: ∀x,x∈r.out->In64 x
theorem q3v{xs:List St}{T K:Nat->Int}{time:Int}{r:Rn}(hx:Rdy xs)(hT: ∀i,i<8->In64 (T i))(hK: ∀i,i<16->In64 (K i))(ht:In64 time)(h:zF3 xs T K time= .inl r): ∃n k a,runL xs T K time= .fine n k a/\r=⟨n,a.cel,a.out,(k:Int)⟩/\RnOk r:=by
 unfold zF3 at h;split at h
 ·cases h
 rename_i x e
 obtain⟨n,k,a⟩:=x
 cases h;have ok:=zG3 (fun i hi=>z8e (hx.right i hi)) (fun i hi=>(hx.nums i hi).2) xs.length 0 0 _ kO (zCb hT hK ht) n k a e;obtain⟨e1,e2⟩:=zPz _ _ _ _ _ _ _ _ _ _ _ _ _ _ e;have:=hx.few;refine⟨n,k,a,e,rfl,⟨by rw[e1];exact(ok.reg 0 kD).n,?_,ok.room,ok.out⟩⟩;show In64 (k:Int);unfold In64;omega
theorem zI5{xs:List St}{T K:Nat->Int}{time:Int}{r:Rn}(hx:Rdy xs)(hT: ∀i,i<8->In64 (T i))(hK: ∀i,i<16->In64 (K i))(ht:In64 time)(h:zF3 xs T K time= .inl r){W:World}{l:Value}(hl:LsAt W l xs):Calls tP 57 #[l,.agg (z0j T),.agg (z2a K),A F time] W fun e w'=> ∃a c,e= rT (.tuple #[.agg (rnCs r (.slice a r.out.length c)),.nilIface])/\Below W.heap.size W w'/\z19 w' a r.out/\(r.out.length=0\/ ∀p,a=some p->W.heap.size<=p.block):=by
 obtain⟨n,k,a,e,rfl, -⟩:=q3v hx hT hK ht h;obtain⟨bk,off,cap,rfl,hb,hs⟩:=hl.open_ hx;refine(zPy bk off xs.length cap _ _ _ _ _ _ T K time W hx.some hx.few hb hs hx.right (fun j hj=>(hx.nums j hj).2) hT hK ht n k a e).mono fun e w' ⟨v3,g1,g2,g3⟩=>?_;obtain⟨va,vc,rfl⟩:=z2d g3;refine⟨va,vc,g1,g2,zIg g3,?_⟩;rcases rowShape g3 with⟨-,e⟩|⟨g,c',e⟩
 ·exact Or.inl e
 injection e with e1 e2 e3
 subst e1
 exact Or.inr fun p hp=>by
  obtain rfl:=Option.some.inj hp;have:=(World.ownsRow.lt g3 g rfl).1;show W.heap.size<=g;omega
theorem zNf{xs:List St}{T K:Nat->Int}{time:Int}{c:Int}(hx:Rdy xs)(hT: ∀i,i<8->In64 (T i))(hK: ∀i,i<16->In64 (K i))(ht:In64 time)(h:zF3 xs T K time= .inr c){W:World}{l:Value}(hl:LsAt W l xs):Calls tP 57 #[l,.agg (z0j T),.agg (z2a K),A F time] W fun e w'=> ∃v,e= rT (.tuple #[z5l,v])/\Below W.heap.size W w'/\ErrV w' v c:=by
 unfold zF3 at h;split at h
 ·rename_i x e
  obtain⟨er,q⟩:=x
  cases h;obtain⟨bk,off,cap,rfl,hb,hs⟩:=hl.open_ hx;exact(zW7 bk off xs.length cap _ _ _ _ _ _ T K time W hx.some hx.few hb hs hx.right (fun j hj=>(hx.nums j hj).2) hT hK ht _ q e).mono fun e w' ⟨p,g1,g2,g4,g5,_⟩=>⟨_,g1,g2,Or.inr ⟨p,rfl,g4,g5⟩⟩
 cases h
theorem z36(he: ∀w,ex.holds w->z17 w)(hu: ∀w,ex.holds w->Lib.Utf8Tabs 2 3 w){pr:ByteArray}{xs:List St}(h:z2b pr= .inl xs)(hs:pr.size<=100000)(a:Option Addr)(n cap:Nat)(w:World)(hT:Tabs ex w):Calls tP 41 #[.agg #[.slice a n cap,.string pr]] w fun e w'=> ∃l,e= rT l/\Below w.heap.size w w'/\LsAt w' l xs/\Rdy xs:=by
 have hb:Below w.heap.size w (w.alloc (cT #[.slice a n cap,.string pr] 51)):=(bF _ _).alloc (Nat.le_refl _) _;have hR:=zWe he hu h hs (w.alloc (cT #[.slice a n cap,.string pr] 51)) (hT.on hb hT.room);clear h;go_enter Tryz.func41,Tryz.ntmps41;go_wp2_with(first|(go_at_call 71;refine hR.mono ?_;rintro e w1 ⟨l,rfl,hb1,hl1,hx⟩)|(go_at_call 70;refine(zS3 _ _).mono ?_;rintro e w2 ⟨rfl,rfl⟩)|fail);go_ret;exact⟨_,rfl,hb.trans (hb1.mono hb.size),hl1,hx⟩
theorem z7p(he: ∀w,ex.holds w->z17 w)(hu: ∀w,ex.holds w->Lib.Utf8Tabs 2 3 w){pr:ByteArray}{c:Int}(h:z2b pr= .inr c)(hs:pr.size<=100000)(a:Option Addr)(n cap:Nat)(w:World)(hT:Tabs ex w)(hg:z0p w):Calls tP 41 #[.agg #[.slice a n cap,.string pr]] w fun e w'=>e=z2c c/\Below w.heap.size w w':=by
 have hb:Below w.heap.size w (w.alloc (cT #[.slice a n cap,.string pr] 51)):=(bF _ _).alloc (Nat.le_refl _) _;have hR:=q1e he hu h hs (w.alloc (cT #[.slice a n cap,.string pr] 51)) (hT.on hb hT.room);clear h;go_enter Tryz.func41,Tryz.ntmps41;go_wp2_with(first|(go_at_call 71;refine hR.mono ?_;rintro e w1 ⟨l,v,rfl,hb1,hl1⟩)|(go_at_call 70;refine(zEy _ (hg.later (hb.trans (hb1.mono hb.size))) hl1).mono ?_;rintro e w2 ⟨rfl,hb2⟩)|fail);exact⟨rfl,rfl,(hb.trans (hb1.mono hb.size)).trans (hb2.mono (hb.trans (hb1.mono hb.size)).size)⟩
end
section
attribute [local simp] z05 z0a z06
variable {ex:Ext}
theorem zD6(k:Nat)(hk:k<3)(S B:Nat)(a:Option Addr)(cap:Nat)(xs:List Int)(pr:ByteArray)(w:World)(hS:w.cell? ⟨S,0,none⟩=some (pT (some ⟨B,0,none⟩)))(hSl:S<w.heap.size)(HX:Hid (z19 w a xs))(h1:1<=xs.length)(hx0:xs.getD 0 0=(k:Int)):zR 37 #[pT (some ⟨S,0,none⟩),.agg #[.slice a xs.length cap,.string pr]] w (pT (some ⟨B,k*317,none⟩)):=by
 obtain⟨bk,off,rfl,hbk,hx⟩: ∃bk off,a=some ⟨bk,off,none⟩/\bk<w.heap.size/\ ∀i,i<xs.length->w.cell? ⟨bk,off+i,none⟩=some (A F (xs.getD i 0)):=by
  rcases HX.out with h|h
  ·omega
  ·exact h
 have hb:Below w.heap.size w (w.alloc (cT #[.slice (some ⟨bk,off,none⟩) xs.length cap,.string pr] 51)):=(bF _ _).alloc (Nat.le_refl _) _;have hn:=heap_alloc_new w (cT #[.slice (some ⟨bk,off,none⟩) xs.length cap,.string pr] 51);have s0:=(hb.cell (p:=⟨S,0,none⟩) hSl).trans hS;have x0:=(hb.cell (p:=⟨bk,off+0,none⟩) hbk).trans (hx 0 h1);rw[Nat.add_zero]at x0;have hl0:(0:Int)<(xs.length:Int):=kO;have hl1:0<xs.length:=kO;have hl2: ¬(xs.length=0):=kO;have hl3: ¬((xs.length:Int)<=0):=kO;rw[hx0]at x0;have HC:Hid (∀W:World,zS 65 #[pT (some ⟨B,0,none⟩),A F (k:Int)] W (.tuple #[pT (some ⟨B,k*317,none⟩),.nilIface])):=fun W=>zXw B k hk W;go_enter Tryz.func37,Tryz.ntmps37;go_upto_region 1 with fail
 generalize w.alloc (cT #[.slice (some ⟨bk,off,none⟩) xs.length cap,.string pr] 51)=w0 at hb hn s0 x0⊢;have n0:w0.cell? ⟨w.heap.size,0,none⟩=some (.slice (some ⟨bk,off,none⟩) xs.length cap):=(cell_of_row w0 w.heap.size 0 _ _ _ hn).trans rfl;go_quiet ((first|(go_at_call 65;exact Calls.quiet_of_same (HC.out _))|(go_at_call 64;exact Calls.quiet_of_same (zS4 _ _))))
 go_wp2_with fail;go_ret;exact⟨rfl,below_drewN hb nq⟩
theorem zG2(S B:Nat)(a:Option Addr)(cap:Nat)(xs:List Int)(pr:ByteArray)(w:World)(hS:w.cell? ⟨S,0,none⟩=some (pT (some ⟨B,0,none⟩)))(hSl:S<w.heap.size)(HX:Hid (z19 w a xs))(h1:1<=xs.length)(k:Int)(hx0:xs.getD 0 0=k)(hk:k<0\/3<=k)(hg:z0p w):Calls tP 37 #[pT (some ⟨S,0,none⟩),.agg #[.slice a xs.length cap,.string pr]] w fun e w'=>e=z2c 2/\Below w.heap.size w w':=by
 obtain⟨bk,off,rfl,hbk,hx⟩: ∃bk off,a=some ⟨bk,off,none⟩/\bk<w.heap.size/\ ∀i,i<xs.length->w.cell? ⟨bk,off+i,none⟩=some (A F (xs.getD i 0)):=by
  rcases HX.out with h|h
  ·omega
  ·exact h
 have hb:Below w.heap.size w (w.alloc (cT #[.slice (some ⟨bk,off,none⟩) xs.length cap,.string pr] 51)):=(bF _ _).alloc (Nat.le_refl _) _;have hn:=heap_alloc_new w (cT #[.slice (some ⟨bk,off,none⟩) xs.length cap,.string pr] 51);have s0:=(hb.cell (p:=⟨S,0,none⟩) hSl).trans hS;have x0:=(hb.cell (p:=⟨bk,off+0,none⟩) hbk).trans (hx 0 h1);rw[Nat.add_zero]at x0;have hl0:(0:Int)<(xs.length:Int):=kO;have hl1:0<xs.length:=kO;have hl2: ¬(xs.length=0):=kO;have hl3: ¬((xs.length:Int)<=0):=kO;rw[hx0]at x0;have HC:Hid (∀W:World,zS 65 #[pT (some ⟨B,0,none⟩),A F k] W (.tuple #[pT none,.iface 33 (A F 2)])):=fun W=>zTs B k hk W;have HC2:Hid (∀W:World,zR 65 #[pT (some ⟨B,0,none⟩),A F k] W (.tuple #[pT none,.iface 33 (A F 2)])):=fun W=>(HC.out W).mono fun e w' h=>⟨h.1,by rw[h.2];exact bF _ _⟩;have HSE:Hid (∀W:World,Below w.heap.size w W->Calls tP 64 #[pT none,.iface 33 (A F 2)] W fun e w'=>e=z2c 2/\Below w.heap.size w w'):=fun W hW=>(zEz _ _ _ 2 W (z8a 2 W (hg.later hW))).mono fun e w' h=>⟨h.1,hW.trans (h.2.mono hW.size)⟩;go_enter Tryz.func37,Tryz.ntmps37;go_upto_region 1 with fail
 generalize w.alloc (cT #[.slice (some ⟨bk,off,none⟩) xs.length cap,.string pr] 51)=w0 at hb hn s0 x0⊢;have n0:w0.cell? ⟨w.heap.size,0,none⟩=some (.slice (some ⟨bk,off,none⟩) xs.length cap):=(cell_of_row w0 w.heap.size 0 _ _ _ hn).trans rfl;have hSl0:S<w0.heap.size:=Nat.lt_of_lt_of_le hSl hb.size;have hbk0:bk<w0.heap.size:=Nat.lt_of_lt_of_le hbk hb.size;have hn0:w.heap.size<w0.heap.size:=(Array.getElem?_eq_some_iff.1 hn).1;refine z0n (C:=fun W=>Below w0.heap.size w0 W) (n0:=w0.heap.size) 11 [] [] kR kR (fun d _ _ _ _ h=>by cases d<;>exact h) (fun W W' h hb=>h.trans (hb.mono h.size)) (fun W h=>h.size) ((bF _ _).drew) trivial ?_;simp only[lQ,lX,lY,lZ,lJ,Nat.reduceAdd]
 repeat(first
  |(refine z0k kI ?_;simp only[pS])
  |(refine z09 kI (v:= pT (some ⟨bk,off,none⟩)) (fun w2 hC=>by go_simp;first|done|rfl) ?_;simp only[pS])
  |(refine z09 kI (v:=?_) ?_ ?_;rotate_left;(intro w2 hC;have s2:=(hC.cell (p:=⟨S,0,none⟩) hSl0).trans s0;have x2:=(hC.cell (p:=⟨bk,off,none⟩) hbk0).trans x0;have n2:=(hC.cell (p:=⟨w.heap.size,0,none⟩) hn0).trans n0;go_simp;try with_reducible rfl);simp only[pS])
  |(refine z0t kI ?_;apply Exists.intro;refine⟨fun w2 hC=>?_,?_⟩;(have s2:=(hC.cell (p:=⟨S,0,none⟩) hSl0).trans s0;have x2:=(hC.cell (p:=⟨bk,off,none⟩) hbk0).trans x0;have n2:=(hC.cell (p:=⟨w.heap.size,0,none⟩) hn0).trans n0;go_simp;apply z10;first|(go_at_call 65;exact HC2.out w2));simp only[pS]))
 refine z0r ?_;intro w4 hC hB4;go_wp2_with(first|(go_at_call 64;refine(HSE.out _ (hb.trans (hC.mono hb.size))).mono ?_;rintro e w2 ⟨rfl,hb2⟩)|fail);exact⟨rfl,rfl,hb2⟩
theorem zPw(k x y:Int)(S B:Nat)(a:Option Addr)(cap:Nat)(xs:List Int)(pr:ByteArray)(w:World)(hS:w.cell? ⟨S,0,none⟩=some (pT (some ⟨B,0,none⟩)))(hSl:S<w.heap.size)(HX:Hid (z19 w a xs))(h1:1<=xs.length)(hx0:xs.getD 0 0=k)(hT:Tabs ex w)(h64:In64 x/\In64 y)(HWA:Hid (∀W:World,Below w.heap.size w W->zR 58 #[pT (some ⟨B,0,none⟩),A F k] W (A F x)))(HLE:Hid (∀W:World,Below w.heap.size w W->zR 59 #[pT (some ⟨B,0,none⟩),A F k] W (A F y))):zR 26 #[pT (some ⟨S,0,none⟩),.agg #[.slice a xs.length cap,.string pr]] w (.string (rowB [x,y])):=by
 obtain⟨bk,off,rfl,hbk,hx⟩: ∃bk off,a=some ⟨bk,off,none⟩/\bk<w.heap.size/\ ∀i,i<xs.length->w.cell? ⟨bk,off+i,none⟩=some (A F (xs.getD i 0)):=by
  rcases HX.out with h|h
  ·omega
  ·exact h
 have hb:Below w.heap.size w (w.alloc (cT #[.slice (some ⟨bk,off,none⟩) xs.length cap,.string pr] 51)):=(bF _ _).alloc (Nat.le_refl _) _;have hn:=heap_alloc_new w (cT #[.slice (some ⟨bk,off,none⟩) xs.length cap,.string pr] 51);have s0:=(hb.cell (p:=⟨S,0,none⟩) hSl).trans hS;have x0:=(hb.cell (p:=⟨bk,off+0,none⟩) hbk).trans (hx 0 h1);rw[Nat.add_zero]at x0;have hl0:(0:Int)<(xs.length:Int):=kO;have hl1:0<xs.length:=kO;have hl2: ¬(xs.length=0):=kO;have hl3: ¬((xs.length:Int)<=0):=kO;rw[hx0]at x0;go_enter Tryz.func26,Tryz.ntmps26;go_upto_region 1 with fail
 generalize w.alloc (cT #[.slice (some ⟨bk,off,none⟩) xs.length cap,.string pr] 51)=w0 at hb hn s0 x0⊢;have n0:w0.cell? ⟨w.heap.size,0,none⟩=some (.slice (some ⟨bk,off,none⟩) xs.length cap):=(cell_of_row w0 w.heap.size 0 _ _ _ hn).trans rfl;go_upto_region 2 with fail
 have hSl0:S<w0.heap.size:=Nat.lt_of_lt_of_le hSl hb.size;have HW:Hid (∀W:World,Below w0.heap.size w0 W->zR 58 #[pT (some ⟨B,0,none⟩),A F k] W (A F x)):=fun W hW=>HWA.out W (hb.trans (hW.mono hb.size));have HLe:Hid (∀W:World,Below w0.heap.size w0 W->zR 59 #[pT (some ⟨B,0,none⟩),A F k] W (A F y)):=fun W hW=>HLE.out W (hb.trans (hW.mono hb.size));refine z0n (C:=fun W=>Below w0.heap.size w0 W) (n0:=w0.heap.size) 12 [] [] kR kR (fun d _ _ _ _ h=>by cases d<;>exact h) (fun W W' h hb=>h.trans (hb.mono h.size)) (fun W h=>h.size) ((bF _ _).drew) trivial ?_;simp only[lQ,lX,lY,lZ,lJ,Nat.reduceAdd]
 repeat(first
  |(refine z0k kI ?_;simp only[pS])
  |(refine z09 kI (v:=?_) ?_ ?_;rotate_left;(intro w2 hC;have s2:=(hC.cell (p:=⟨S,0,none⟩) hSl0).trans s0;go_simp;try with_reducible rfl);simp only[pS])
  |(refine z0t kI ?_;apply Exists.intro;refine⟨fun w2 hC=>?_,?_⟩;(have s2:=(hC.cell (p:=⟨S,0,none⟩) hSl0).trans s0;go_simp;apply z10;first|(go_at_call 58;exact HW.out w2 hC)|(go_at_call 59;exact HLe.out w2 hC));simp only[pS]))
 refine z0r ?_;intro w4 hC hB4;have hbw:=hb.trans (hC.mono hb.size);obtain⟨i0,hi0,hz0,hz1,hz2⟩:=info_parts Tryz.infoInt;refine wpList_buildSlice rfl 93 3 2 #[(0,.tmp 15),(1,.tmp 21)] rfl #[A F x,A F y] i0 _ Tryz.underlying93 hi0 hz0 (by rw[hz1];omega) (by rw[hz1];omega) (by rw[hz1];kernel_rfl) ?_;simp only[pS];have hb5:Below w.heap.size w (w4.alloc (cT #[A F x,A F y] 3)):=hbw.alloc hbw.size _;have hn5:=heap_alloc_new w4 (cT #[A F x,A F y] 3);generalize w4.alloc (cT #[A F x,A F y] 3)=w5 at hb5 hn5⊢;generalize w4.heap.size=g5 at hn5⊢
 have hNA:z19 w5 (some ⟨g5,0,none⟩) [x,y]:=Or.inr ⟨g5,0,rfl,(Array.getElem?_eq_some_iff.1 hn5).1,fun i hi=>by
  have hi2:i<2:=hi;rw[cell_of_row w5 g5 (0+i) _ _ _ hn5];rcases(show i=0\/i=1 by omega)with rfl|rfl<;>rfl⟩
 have h6: ∀i,i< [x,y].length->In64 ([x,y].getD i 0):=fun i hi=>by
  have hi2:i<2:=hi;rcases(show i=0\/i=1 by omega)with rfl|rfl
  ·exact h64.1
  ·exact h64.2
 have hR:=zNg (some ⟨g5,0,none⟩) 2 [x,y] w5 hNA h6 (by show 2<=1000;decide) (hT.on hb5 hT.room);refine z0c rfl 38 #[.slice (some ⟨g5,0,none⟩) 2 2] kG (.string (rowB [x,y])) hR ?_;intro w6 hb6;simp only[pS];have hb7:=hb5.trans (hb6.mono hb5.size);go_wp2_with fail;go_ret;exact⟨rfl,hb7⟩
end
section
attribute [local simp] z05 z0a z06
variable {ex:Ext}
def z3j(x y:Int):Nat->Int:=fun i=>if i=0 then x else if i=1 then y else 0
theorem zE8(S B:Nat)(a:Option Addr)(cap:Nat)(xs:List Int)(pr:ByteArray)(k x y:Int)(w:World)(hS:w.cell? ⟨S,0,none⟩=some (pT (some ⟨B,0,none⟩)))(hSl:S<w.heap.size)(HX:Hid (z19 w a xs))(h3:xs.length=3)(HK:Hid (xs.getD 0 0=k/\xs.getD 1 0=x/\xs.getD 2 0=y)):(∀(d':Dsk)(M:Int)(HEV:Hid (∀W:World,Below w.heap.size w W->Calls tP 51 #[pT (some ⟨B,0,none⟩),A F k,.agg (z0j (z3j x y))] W fun e w'=>e= rT .nilIface/\Kept B W w'/\DOk w' B d' M)),Calls tP 20 #[pT (some ⟨S,0,none⟩),.agg #[.slice a xs.length cap,.string pr]] w fun e w'=>e= rT (.string ⟨#[101,118,101,110,116]⟩)/\Kept B w w'/\DOk w' B d' M)/\(∀(c:Int)(hg:z0p w)(HEV:Hid (∀W:World,Below w.heap.size w W->zR 51 #[pT (some ⟨B,0,none⟩),A F k,.agg (z0j (z3j x y))] W (.iface 33 (A F c)))),Calls tP 20 #[pT (some ⟨S,0,none⟩),.agg #[.slice a xs.length cap,.string pr]] w fun e w'=>e=z2c c/\Below w.heap.size w w'):=by
 refine⟨?_,?_⟩;intro d' M HEV;rotate_left;intro c hg HEV;rotate_left
 all_goals
  obtain⟨bk,off,rfl,hbk,hx⟩: ∃bk off,a=some ⟨bk,off,none⟩/\bk<w.heap.size/\ ∀i,i<xs.length->w.cell? ⟨bk,off+i,none⟩=some (A F (xs.getD i 0)):=by
   rcases HX.out with h|h
   ·omega
   ·exact h
  have hb:Below w.heap.size w (w.alloc (cT #[.slice (some ⟨bk,off,none⟩) xs.length cap,.string pr] 51)):=(bF _ _).alloc (Nat.le_refl _) _;have hn:=heap_alloc_new w (cT #[.slice (some ⟨bk,off,none⟩) xs.length cap,.string pr] 51);have s0:=(hb.cell (p:=⟨S,0,none⟩) hSl).trans hS;have x0:=(hb.cell (p:=⟨bk,off+0,none⟩) hbk).trans (hx 0 kO);have x1:=(hb.cell (p:=⟨bk,off+1,none⟩) hbk).trans (hx 1 kO);have x2':=(hb.cell (p:=⟨bk,off+2,none⟩) hbk).trans (hx 2 kO);rw[Nat.add_zero,HK.out.1]at x0;rw[HK.out.2.1]at x1;rw[HK.out.2.2]at x2';have hl0:(0:Int)<(xs.length:Int):=kO;have hl1:(1:Int)<(xs.length:Int):=kO;have hl2:(2:Int)<(xs.length:Int):=kO;have hl3:0<xs.length:=kO;have hl4:1<xs.length:=kO;have hl5:2<xs.length:=kO;clear hx h3
 all_goals
  go_enter Tryz.func20,Tryz.ntmps20;go_upto_region 1 with fail
  generalize w.alloc (cT #[.slice (some ⟨bk,off,none⟩) xs.length cap,.string pr] 51)=w0 at hb hn s0 x0 x1 x2'⊢;have n0:w0.cell? ⟨w.heap.size,0,none⟩=some (.slice (some ⟨bk,off,none⟩) xs.length cap):=(cell_of_row w0 w.heap.size 0 _ _ _ hn).trans rfl;have hSl0:S<w0.heap.size:=Nat.lt_of_lt_of_le hSl hb.size;have hbk0:bk<w0.heap.size:=Nat.lt_of_lt_of_le hbk hb.size;have hn0:w.heap.size<w0.heap.size:=(Array.getElem?_eq_some_iff.1 hn).1;refine z0n (C:=fun W=>Below w0.heap.size w0 W) (n0:=w0.heap.size) 17 [] [] kR kR (fun d _ _ _ _ h=>by cases d<;>exact h) (fun W W' h hb=>h.trans (hb.mono h.size)) (fun W h=>h.size) ((bF _ _).drew) trivial ?_;simp only[lQ,lX,lY,lZ,lJ,Nat.reduceAdd]
  repeat(first
   |(refine z0k kI ?_;simp only[pS])
   |(refine z09 kI (v:= pT (some ⟨bk,off,none⟩)) (fun w2 hC=>by go_simp;first|done|rfl) ?_;simp only[pS])
   |(refine z09 kI (v:= pT (some ⟨bk,off+1,none⟩)) (fun w2 hC=>by go_simp;first|done|rfl) ?_;simp only[pS])
   |(refine z09 kI (v:= pT (some ⟨bk,off+2,none⟩)) (fun w2 hC=>by go_simp;first|done|rfl) ?_;simp only[pS])
   |(refine z09 kI (v:= .agg (z0j (z3j x y))) (fun w2 hC=>by go_simp;first|done|rfl) ?_;simp only[pS])
   |(refine z09 kI (v:=?_) ?_ ?_;rotate_left;(intro w2 hC;have s2:=(hC.cell (p:=⟨S,0,none⟩) hSl0).trans s0;have x2:=(hC.cell (p:=⟨bk,off,none⟩) hbk0).trans x0;have y2:=(hC.cell (p:=⟨bk,off+1,none⟩) hbk0).trans x1;have z2:=(hC.cell (p:=⟨bk,off+2,none⟩) hbk0).trans x2';have n2:=(hC.cell (p:=⟨w.heap.size,0,none⟩) hn0).trans n0;go_simp;try with_reducible rfl);simp only[pS]))
  refine z0r ?_;intro w4 hC hB4;have hbw:=hb.trans (hC.mono hb.size)
 ·refine z0v rfl 51 #[pT (some ⟨B,0,none⟩),A F k,.agg (z0j (z3j x y))] kG (R:=fun v w'=>v= .nilIface/\Kept B w4 w'/\DOk w' B d' M) ((HEV.out w4 hbw).mono fun e w' ⟨h1,h2⟩=>⟨_,h1,rfl,h2⟩) ?_
  rintro v w5 ⟨rfl,hk5,hd5⟩;simp only[pS];have HR:Hid (Kept B w w5/\DOk w5 B d' M):=⟨z18 (z0d hbw B) hk5,hd5⟩;clear hk5 hd5 hbw hC;go_wp2_with(first|(go_at_call 48;refine(z4y _).mono ?_;rintro e w5 ⟨rfl,rfl⟩)|fail);go_ret;exact⟨rfl,HR.out⟩
 ·refine z0c rfl 51 #[pT (some ⟨B,0,none⟩),A F k,.agg (z0j (z3j x y))] kG (.iface 33 (A F c)) (HEV.out w4 hbw) ?_
  intro w5 hb5;simp only[pS];have hb6:=hbw.trans (hb5.mono hbw.size);have hM:=z4z 33 (A F c) c w5 (z8a c w5 (hg.later hb6));go_wp2_with(first|(go_at_call 48;refine hM.mono ?_;rintro e w7 ⟨rfl,hb7⟩)|fail);exact⟨rfl,rfl,hb6.trans (hb7.mono hb6.size)⟩
def q2q:=fun S B a cap xs pr k x y w hS hSl HX h3 HK=>(@zE8 S B a cap xs pr k x y w hS hSl HX h3 HK).1
def zLy:=fun S B a cap xs pr k x y w hS hSl HX h3 HK=>(@zE8 S B a cap xs pr k x y w hS hSl HX h3 HK).2
end
section
variable {ex:Ext}
attribute [local simp] z05 z0a z06
variable {ex:Ext}
theorem zB8:(∀(k:Int)(hk:k<0\/3<=k)(S B:Nat)(a:Option Addr)(cap:Nat)(xs:List Int)(pr:ByteArray)(x:Int)(w:World)(hS:w.cell? ⟨S,0,none⟩=some (pT (some ⟨B,0,none⟩)))(hSl:S<w.heap.size)(HX:Hid (z19 w a xs))(H2:Hid (xs.length=2))(HK:Hid (xs.getD 0 0=k/\xs.getD 1 0=x))(hg:z0p w),Calls tP 18 #[pT (some ⟨S,0,none⟩),.agg #[.slice a xs.length cap,.string pr]] w fun e w'=>e=z2c 2/\Below w.heap.size w w')/\(∀(k:Nat)(hk:k<3)(S B:Nat)(a:Option Addr)(cap:Nat)(xs:List Int)(pr:ByteArray)(x:Int)(w:World)(hS:w.cell? ⟨S,0,none⟩=some (pT (some ⟨B,0,none⟩)))(hSl:S<w.heap.size)(HX:Hid (z19 w a xs))(H2:Hid (xs.length=2))(HK:Hid (xs.getD 0 0=(k:Int)/\xs.getD 1 0=x))(d':Dsk)(M:Int)(HDT:Hid (∀W:World,Below w.heap.size w W->Calls tP 49 #[pT (some ⟨B,k*317,none⟩),A F x] W fun e w'=>e= rT .nilIface/\Kept B W w'/\DOk w' B d' M)),Calls tP 18 #[pT (some ⟨S,0,none⟩),.agg #[.slice a xs.length cap,.string pr]] w fun e w'=>e= rT (.string ⟨#[100,101,116,97,99,104]⟩)/\Kept B w w'/\DOk w' B d' M)/\(∀(k:Nat)(hk:k<3)(S B:Nat)(a:Option Addr)(cap:Nat)(xs:List Int)(pr:ByteArray)(x:Int)(w:World)(hS:w.cell? ⟨S,0,none⟩=some (pT (some ⟨B,0,none⟩)))(hSl:S<w.heap.size)(HX:Hid (z19 w a xs))(H2:Hid (xs.length=2))(HK:Hid (xs.getD 0 0=(k:Int)/\xs.getD 1 0=x))(c:Int)(hg:z0p w)(HDT:Hid (∀W:World,Below w.heap.size w W->zR 49 #[pT (some ⟨B,k*317,none⟩),A F x] W (.iface 33 (A F c)))),Calls tP 18 #[pT (some ⟨S,0,none⟩),.agg #[.slice a xs.length cap,.string pr]] w fun e w'=>e=z2c c/\Below w.heap.size w w'):=by
 refine⟨?_,?_,?_⟩;intro k hk S B a cap xs pr x w hS hSl HX H2 HK hg;rotate_left;intro k hk S B a cap xs pr x w hS hSl HX H2 HK d' M HDT;rotate_left;intro k hk S B a cap xs pr x w hS hSl HX H2 HK c hg HDT;rotate_left
 all_goals
  have hl4:1<xs.length:=by have:=H2.out;omega
  obtain⟨bk,off,rfl,hbk,hx⟩: ∃bk off,a=some ⟨bk,off,none⟩/\bk<w.heap.size/\ ∀i,i<xs.length->w.cell? ⟨bk,off+i,none⟩=some (A F (xs.getD i 0)):=by
   rcases HX.out with h|h
   ·omega
   ·exact h
  have hb:Below w.heap.size w (w.alloc (cT #[.slice (some ⟨bk,off,none⟩) xs.length cap,.string pr] 51)):=(bF _ _).alloc (Nat.le_refl _) _;have hn:=heap_alloc_new w (cT #[.slice (some ⟨bk,off,none⟩) xs.length cap,.string pr] 51);have x1:=(hb.cell (p:=⟨bk,off+1,none⟩) hbk).trans (hx 1 kO);rw[HK.out.2]at x1;have hl1:(1:Int)<(xs.length:Int):=kO;clear hx
 have HSC:Hid (∀W:World,Below w.heap.size w W->Calls tP 37 #[pT (some ⟨S,0,none⟩),.agg #[.slice (some ⟨bk,off,none⟩) xs.length cap,.string pr]] W fun e w'=>e=z2c 2/\Below w.heap.size w w'):=fun W hbW=>by
  refine(zG2 S B (some ⟨bk,off,none⟩) cap xs pr W ((hbW.cell (p:=⟨S,0,none⟩) hSl).trans hS) (Nat.lt_of_lt_of_le hSl hbW.size) ?_ kO k HK.out.1 hk (hg.later hbW)).mono fun e w' h=>⟨h.1,hbW.trans (h.2.mono hbW.size)⟩;rcases HX.out with h|⟨b2,o2,e,h3,h4⟩
  ·exact Or.inl h
  ·exact Or.inr ⟨b2,o2,e,Nat.lt_of_lt_of_le h3 hbW.size,fun i hi=>(hbW.cell (p:=⟨b2,o2+i,none⟩) h3).trans (h4 i hi)⟩
 rotate_left;rotate_left;rotate_left
 all_goals
  go_enter Tryz.func18,Tryz.ntmps18;go_upto_region 1 with fail
  generalize w.alloc (cT #[.slice (some ⟨bk,off,none⟩) xs.length cap,.string pr] 51)=w0 at hb hn x1⊢;have n0:w0.cell? ⟨w.heap.size,0,none⟩=some (.slice (some ⟨bk,off,none⟩) xs.length cap):=(cell_of_row w0 w.heap.size 0 _ _ _ hn).trans rfl;have n1:w0.cell? ⟨w.heap.size,1,none⟩=some (.string pr):=(cell_of_row w0 w.heap.size 1 _ _ _ hn).trans rfl;have hbk0:bk<w0.heap.size:=Nat.lt_of_lt_of_le hbk hb.size;have hn0:w.heap.size<w0.heap.size:=(Array.getElem?_eq_some_iff.1 hn).1
 ·go_region_dies
  all_goals
   refine(HSC.out _ hb.drew).mono ?_;rintro e w1 ⟨rfl,hb1⟩;exact⟨rfl,rfl,hb1⟩
 all_goals
  have HSC:Hid (∀W:World,Below w0.heap.size w0 W->zR 37 #[pT (some ⟨S,0,none⟩),.agg #[.slice (some ⟨bk,off,none⟩) xs.length cap,.string pr]] W (pT (some ⟨B,k*317,none⟩))):=fun W hW=>by
   have hbW:=hb.trans (hW.mono hb.size);refine zD6 k hk S B (some ⟨bk,off,none⟩) cap xs pr W ((hbW.cell (p:=⟨S,0,none⟩) hSl).trans hS) (Nat.lt_of_lt_of_le hSl hbW.size) ?_ kO HK.out.1;rcases HX.out with h|⟨b2,o2,e,h3,h4⟩
   ·exact Or.inl h
   ·exact Or.inr ⟨b2,o2,e,Nat.lt_of_lt_of_le h3 hbW.size,fun i hi=>(hbW.cell (p:=⟨b2,o2+i,none⟩) h3).trans (h4 i hi)⟩
  refine z0n (C:=fun W=>Below w0.heap.size w0 W) (n0:=w0.heap.size) 7 [] [] kR kR (fun d _ _ _ _ h=>by cases d<;>exact h) (fun W W' h hb=>h.trans (hb.mono h.size)) (fun W h=>h.size) ((bF _ _).drew) trivial ?_;simp only[lQ,lX,lY,lZ,lJ,Nat.reduceAdd]
  repeat(first
   |(refine z0k kI ?_;simp only[pS])
   |(refine z09 kI (v:= pT (some ⟨bk,off+1,none⟩)) (fun w2 hC=>by go_simp;first|done|rfl) ?_;simp only[pS])
   |(refine z09 kI (v:= .agg #[.slice (some ⟨bk,off,none⟩) xs.length cap,.string pr]) (fun w2 hC=>by have y2:=(hC.cell (p:=⟨bk,off+1,none⟩) hbk0).trans x1;have n2:=(hC.cell (p:=⟨w.heap.size,0,none⟩) hn0).trans n0;have n3:=(hC.cell (p:=⟨w.heap.size,1,none⟩) hn0).trans n1;go_simp;first|done|rfl) ?_;simp only[pS])
   |(refine z09 kI (v:=?_) ?_ ?_;rotate_left;(intro w2 hC;have y2:=(hC.cell (p:=⟨bk,off+1,none⟩) hbk0).trans x1;have n2:=(hC.cell (p:=⟨w.heap.size,0,none⟩) hn0).trans n0;have n3:=(hC.cell (p:=⟨w.heap.size,1,none⟩) hn0).trans n1;go_simp;try with_reducible rfl);simp only[pS])
   |(refine z0t kI ?_;apply Exists.intro;refine⟨fun w2 hC=>?_,?_⟩;(have y2:=(hC.cell (p:=⟨bk,off+1,none⟩) hbk0).trans x1;have n2:=(hC.cell (p:=⟨w.heap.size,0,none⟩) hn0).trans n0;have n3:=(hC.cell (p:=⟨w.heap.size,1,none⟩) hn0).trans n1;go_simp;apply z10;first|(go_at_call 37;exact HSC.out w2 hC));simp only[pS]))
  refine z0r ?_;intro w4 hC hB4;have hbw:=hb.trans (hC.mono hb.size)
 ·refine z0v rfl 49 #[pT (some ⟨B,k*317,none⟩),A F x] kG (R:=fun v w'=>v= .nilIface/\Kept B w4 w'/\DOk w' B d' M) ((HDT.out w4 hbw).mono fun e w' ⟨h1,h2⟩=>⟨_,h1,rfl,h2⟩) ?_
  rintro v w5 ⟨rfl,hk5,hd5⟩;simp only[pS];have HR:Hid (Kept B w w5/\DOk w5 B d' M):=⟨z18 (z0d hbw B) hk5,hd5⟩;clear hk5 hd5 hbw hC;go_wp2_with(first|(go_at_call 48;refine(z4y _).mono ?_;rintro e w5 ⟨rfl,rfl⟩)|fail);go_ret;exact⟨rfl,HR.out⟩
 ·refine z0c rfl 49 #[pT (some ⟨B,k*317,none⟩),A F x] kG (.iface 33 (A F c)) (HDT.out w4 hbw) ?_
  intro w5 hb5;simp only[pS];have hb6:=hbw.trans (hb5.mono hbw.size);have hM:=z4z 33 (A F c) c w5 (z8a c w5 (hg.later hb6));go_wp2_with(first|(go_at_call 48;refine hM.mono ?_;rintro e w7 ⟨rfl,hb7⟩)|fail);exact⟨rfl,rfl,hb6.trans (hb7.mono hb6.size)⟩
def zK4:=zB8.1
def zSh:=zB8.2.1
def zNc:=zB8.2.2
end
end Go.Proofs.YtkdflpplamebkaaGreatDoor
