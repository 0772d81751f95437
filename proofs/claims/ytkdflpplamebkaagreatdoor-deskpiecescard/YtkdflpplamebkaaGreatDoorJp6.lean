/-
A part of the proof of DeskPieces; its card says what is proved.
-/
import Derived.Test.YtkdflpplamebkaaGreatDoorJp5
import Derived.RangeFuncNested
set_option maxHeartbeats 40000000
open Go.Value renaming int → E
open Go.IntKind renaming i64 → F
open Go.RowKit.Below renaming alloc → bA, setCell → bS, drew → bD, refl → bF
set_option maxRecDepth 1000000
set_option linter.defProp false
set_option linter.unusedVariables false
set_option linter.unusedSimpArgs false
open Go.Ending renaming returned → rT
open Go.Value renaming pointer → pT
open Go.Obj renaming cells → cT
open Go.Proofs.Tryz renaming prog → tP
namespace Go.Proofs.YtkdflpplamebkaaGreatDoor
section
open Go.ChangeShapes Go.WideShapes Go.ChangeAt Go.RowKit Go.Shelf
def zPl{β:Type}(Bs:Nat)(J:β->World->Prop):Prop:= ∀s W W' row,J s W->W.grownBy W' row->(row=none\/(row=some Bs/\(∃v,Boxed W Bs 9 (.string v))/\ ∃v,Boxed W' Bs 9 (.string v)))->J s W'
def zPk{α:Type}(n:Nat)(P:Program)(g:Nat)(lb:Array Value)(encs:α->Array Value)(Kp:World->World->Prop)(S Sp:List α->Prop)(N Bs:Nat)(w:World):Prop:=
 ∀(l:Nat)(J Jx:List α->World->Prop)(W:World),Below w.heap.size w W->zPl Bs J->zPl Bs Jx->
  (∀pre x W1,J pre W1->pre.length<N->YieldAt Fence.wide (n-1) P l (encs x) W1 fun e W'=>
   (e= rT (.bool true)/\J (pre++[x]) W'/\Kp W1 W')\/(e= rT (.bool false)/\Jx (pre++[x]) W'))->
  J [] W->
  CallsIn Fence.wide n P g (#[.func (.yield l) #[] #[]]++lb) W fun e W'=>(∃v,e= rT v)/\((∃xs,S xs/\J xs W')\/(∃pre,Sp pre/\Jx pre W'))
theorem z8j{W W':World}{row:Option Nat}{Bs k:Nat}{o:Obj}(hg:W.grownBy W' row)(hr:row=none\/row=some Bs)(hk:W.heap[k]?=some o)(hne:k≠Bs):W'.heap[k]?=some o:=by
 refine(hg.block k (Array.getElem?_eq_some_iff.1 hk).1 fun e=>?_).trans hk;rcases hr with h|h
 ·rw[h]at e;cases e
 rw[h]at e;exact hne (Option.some.inj e)
theorem zG6{P:Program}{α:Type}{n:Nat}{g:Operand}{ps:Array Tmp}{assign body:Code}{Q:Exit->Act->World->Prop}{a:Act}{w:World}(h1:1<=n){gf:Nat}{lb:Array Value}(hg:a.eval g= .func (.func gf) #[] lb)
  (eg: ∀args w,(callFunc gf args).run P w= .ok (.enter gf args) w){encs:α->Array Value}{Kp:World->World->Prop}{S Sp:List α->Prop}{N Bs:Nat}(hseq:zPk (n-1) P gf lb encs Kp S Sp N Bs w)(hBs:Bs<w.heap.size)
  (hKt: ∀{A B C:World},Kp A B->Kp B C->Kp A C)(hKb: ∀(W:World)(l:Nat)(o o':Obj),w.heap.size<=l->W.heap[l]?=some o->o.isCells=false->o.isWalk=false->Kp W (W.putObj l o'))(hps: ∀x,(encs x).size=ps.size)
  (I:List α->World->Prop)(Ix:Code->List α->World->Prop)(hI:OwnFrom w.heap.size I)(hIa:zPl Bs I)(hIx: ∀c,OwnFrom w.heap.size (Ix c))(hIxa: ∀c,zPl Bs (Ix c))(h0:I [] w)(a₁:α->Act)
  (hassign: ∀(l:Nat)(x:α)(W:World)(K:Act->World->Prop),K (a₁ x) W->assign.wpIn (Fence.wide.inRound l) (n-1-1) P (Exit.then K (fun _ _ _=>False)) {tmps:=(ps.zip (encs x)).foldl (fun t (p,v)=>t.setIfInBounds p v) a.tmps,defers:=[]} W)
  (hbody: ∀(l:Nat)(pre:List α)(x:α)(W:World),I pre W->pre.length<N->body.wpIn (Fence.wide.inRound l) (n-1-1) P (ownPostG w.heap.size Kp I Ix (pre++[x]) W) (a₁ x) W)
  (hdone: ∀(D:Nat)(xs:List α)(W:World),w.heap.size<=D->S xs->I xs W->W.heap[D]?=some (.deferred (some []))->Q .normal {a with defers:={target:= .collected D,args:=#[]}::a.defers} W)
  (hstop: ∀(D:Nat)(c:Code)(pre:List α)(W:World),w.heap.size<=D->Sp pre->Ix c pre W->W.heap[D]?=some (.deferred (some []))->c.wpIn Fence.wide n P Q {a with defers:={target:= .collected D,args:=#[]}::a.defers} W):
  (Code.rangeFunc g ps assign body).wpIn Fence.wide n P Q a w:=by
 refine wpIn_rangeFunc fun fn hfn=>?_;let R (st:LoopState) (pe:Option Code):Loop:={state:=st,pending:=pe,fn:=fn,tmps:=a.tmps,params:=ps,assign:=assign,body:=body,defers:=w.heap.size}
 let W1:World:=(w.alloc (.deferred (some []))).alloc (.loop (R .ready none))
 have hL:W1.heap[w.heap.size+1]?=some (.loop (R .ready none)):=by
  have h:=World.alloc_heap_new (w.alloc (.deferred (some []))) (.loop (R .ready none));rw[World.size_alloc]at h;exact h
 have hD:W1.heap[w.heap.size]?=some (.deferred (some [])):=(Below.heap_alloc _ _ _ kS).trans (World.alloc_heap_new w _);have hI1:I [] W1:=hI.alloc _ (hI.alloc _ h0);have hB1:Below w.heap.size w W1:=((bF _ w).alloc (Nat.le_refl _) _).alloc kS _;refine⟨w.heap.size+1,[{target:= .collected w.heap.size,args:=#[]}],W1,{target:= .fn (.func gf) lb,args:=#[.func (.yield (w.heap.size+1)) #[] #[]]},W1,gf, #[.func (.yield (w.heap.size+1)) #[] #[]]++lb,W1,run_enterLoop_outer _ _ _ _ _,?_,fun _ _=>trivial,?_,fun _=>h1,?_⟩
 ·simp only[resolve,hg]
  simp[go_sem]
 ·simp[invoke,go_sem,eg]
 -- the iterator, at the caller's invariant and the loop's own two blocks
 refine(hseq (w.heap.size+1) (fun pre W=>I pre W/\W.heap[w.heap.size+1]?=some (.loop (R .ready none))/\W.heap[w.heap.size]?=some (.deferred (some [])))
  (fun pre W=> ∃c,Ix c pre W/\W.heap[w.heap.size+1]?=some (.loop (R .done (some c)))/\W.heap[w.heap.size]?=some (.deferred (some []))) W1 hB1
  (fun s A B row hs hgr hr=>⟨hIa s A B row hs.1 hgr hr,z8j hgr (hr.imp id And.left) hs.2.1 kO,z8j hgr (hr.imp id And.left) hs.2.2 kO⟩)
  (fun s A B row hs hgr hr=>by
   obtain⟨c,hc,hl,hd⟩:=hs;exact⟨c,hIxa c s A B row hc hgr hr,z8j hgr (hr.imp id And.left) hl kO,z8j hgr (hr.imp id And.left) hd kO⟩) ?_ ⟨hI1,hL,hD⟩).mono ?_
 ·rintro pre x W ⟨hi,hl,hd⟩ hlen
  have hlt:w.heap.size+1<W.heap.size:=(Array.getElem?_eq_some_iff.1 hl).1;have hy:=run_yield (P:=P) (args:=encs x) hl (hps x);refine⟨fn,_,assign,body,hy,roundIn_of_wpIn hfn (hassign _ x W _ ⟨_,run_beginRound hl rfl,?_⟩)⟩;-- the record is busy while the body runs
  have hl2:(W.putObj (w.heap.size+1) (.loop {R .ready none with state:= .busy})).heap[w.heap.size+1]?=some (.loop {R .ready none with state:= .busy}):=World.putObj_heap_same hlt;have hd2:(W.putObj (w.heap.size+1) (.loop {R .ready none with state:= .busy})).heap[w.heap.size]?=some (.deferred (some [])):=(World.putObj_heap_other kO).trans hd;have hk2:Kp W (W.putObj (w.heap.size+1) (.loop {R .ready none with state:= .busy})):=hKb _ _ _ _ kO hl rfl rfl
  have hend: ∀(jump:Option Code)(W3:World),KeepsFrom w.heap.size (W.putObj (w.heap.size+1) (.loop {R .ready none with state:= .busy})) W3->
    (Instr.endRound (w.heap.size+1) jump).run P W3= .ok (.bool jump.isNone) (W3.putObj (w.heap.size+1) (.loop (R (if jump.isNone then .ready else .done) jump)))/\W3.heap[w.heap.size+1]?=some (.loop {R .ready none with state:= .busy})/\
    (W3.putObj (w.heap.size+1) (.loop (R (if jump.isNone then .ready else .done) jump))).heap[w.heap.size+1]?=some (.loop (R (if jump.isNone then .ready else .done) jump))/\
    (W3.putObj (w.heap.size+1) (.loop (R (if jump.isNone then .ready else .done) jump))).heap[w.heap.size]?=some (.deferred (some [])):=fun jump W3 hk3=>by
   have hl3:=hk3.same _ _ kO hl2 rfl;exact⟨run_endRound (P:=P) jump hl3,hl3,World.putObj_heap_same (Array.getElem?_eq_some_iff.1 hl3).1,(World.putObj_heap_other kO).trans (hk3.same _ _ (Nat.le_refl _) hd2 rfl)⟩
  refine wpIn_mono (hbody _ pre x _ (hI.putObj _ hi kO hl rfl) hlen) ?_;rintro e a3 W3 hp
  have leaves: ∀c,KeepsFrom w.heap.size (W.putObj (w.heap.size+1) (.loop {R .ready none with state:= .busy})) W3/\Ix c (pre++[x]) W3-> ∃v W4,(Instr.endRound (w.heap.size+1) (some c)).run P W3= .ok v W4/\((Ending.returned v= rT (.bool true)/\(I (pre++[x]) W4/\W4.heap[w.heap.size+1]?=some (.loop (R .ready none))/\W4.heap[w.heap.size]?=some (.deferred (some [])))/\Kp W W4)\/
    (Ending.returned v= rT (.bool false)/\ ∃c,Ix c (pre++[x]) W4/\W4.heap[w.heap.size+1]?=some (.loop (R .done (some c)))/\W4.heap[w.heap.size]?=some (.deferred (some [])))):=fun c hp=>by
   obtain⟨hr,hl3,hl4,hd4⟩:=hend (some c) W3 hp.1;exact⟨_,_,hr,.inr ⟨rfl,c,(hIx c).putObj _ hp.2 kO hl3 rfl,hl4,hd4⟩⟩
  cases e with
  |normal=>
   obtain⟨hk3,hkp3,hi3⟩:=hp;obtain⟨hr,hl3,hl4,hd4⟩:=hend none W3 hk3;exact⟨_,_,hr,.inl ⟨rfl,⟨hI.putObj _ hi3 kO hl3 rfl,hl4,hd4⟩,hKt (hKt hk2 hkp3) (hKb _ _ _ _ kO hl3 rfl rfl)⟩⟩
  |ret=>exact leaves .ret hp
  |exit id=>exact leaves (.exit id) hp
  |goto t=>exact leaves (.goto t) hp
  |panic ch=>exact hp.elim
  |outgrown=>exact hp.elim
 rintro e W2 ⟨⟨v,rfl⟩,(⟨xs,hS,hi,hl,hd⟩|⟨pre,hSp,c,hi,hl,hd⟩)⟩
 ·exact⟨none,_,run_endLoop (P:=P) hl (by simp[R]),hdone _ xs _ (Nat.le_refl _) hS (hI.putObj _ hi kO hl rfl) ((World.putObj_heap_other kO).trans hd)⟩
 exact⟨some c,_,run_endLoop (P:=P) hl (by simp[R]),hstop _ c pre _ (Nat.le_refl _) hSp ((hIx c).putObj _ hi kO hl rfl) ((World.putObj_heap_other kO).trans hd)⟩
variable {ex:Ext}
attribute [local go_sem] Oper.semAt_some
def semi(t:ByteArray):Int:=Lib.indexByte t.data.toList 59
def z1u:Nat->ByteArray->List ByteArray
 |0,t=>[t]
 |f+1,t=>if 0<=semi t then t.extract 0 (semi t).toNat::z1u f (t.extract ((semi t).toNat+1) t.size)else [t]
def z0l(s:ByteArray):List ByteArray:=z1u s.size s
structure z2q (n₀:Nat) (bs:List Nat) (W W':World):Prop where
 bel:Below n₀ W W'
 also: ∀b∈bs,W'.heap[b]?=W.heap[b]?
theorem z2q.trans{n₀:Nat}{bs:List Nat}{A B C:World}(h:z2q n₀ bs A B)(k:z2q n₀ bs B C):z2q n₀ bs A C:=⟨h.bel.trans k.bel,fun b hb=>(k.also b hb).trans (h.also b hb)⟩
theorem z2q.put{n₀:Nat}{bs:List Nat}{w:World}(hn:n₀<=w.heap.size)(h1: ∀b∈bs,b<w.heap.size)(W:World)(l:Nat)(o o':Obj)(hl:w.heap.size<=l)(h:W.heap[l]?=some o)(hc:o.isCells=false)(hw:o.isWalk=false):z2q n₀ bs W (W.putObj l o'):=
 ⟨belowK_b hn W l o o' hl h hc hw,fun b hb=>World.putObj_heap_other (by have:=h1 b hb;omega)⟩
def zHi(W:World)(b:Nat):Nat:=match W.cell? ⟨b,0,none⟩with
 |some (.string t)=>t.size
 |_=>0
theorem zAa{W:World}{b:Nat}{ty:TypeId}{t:ByteArray}(h:Boxed W b ty (.string t)):zHi W b=t.size:=by
 unfold zHi;rw[h.cell]
theorem z7x: ∀(l:List UInt8)(c:UInt8),Lib.indexByte l c<l.length
 |[],c=>by simp[Lib.indexByte]
 |b::l,c=>by
  have ih:=z7x l c;unfold Lib.indexByte;rw[List.length_cons];split
  ·omega
  ·split
   ·omega
   ·omega
theorem q4z(t:ByteArray):semi t<t.size/\ -1<=semi t:=by
 have h:=z7x t.data.toList 59;rw[z6j]at h;exact⟨h,Lib.indexByte_ge _ _⟩
theorem Boxed.other_box{W:World}{b c:Nat}{ty:TypeId}{v:Value}(h:Boxed W b ty v)(hne:b≠c)(u:Value):Boxed (W.setCell ⟨c,0,none⟩ u) b ty v:=(Below.heap_setCell W ⟨c,0,none⟩ u b hne).trans h
theorem zB0{f:Nat}{t:ByteArray}(h:0<=semi t):z1u (f+1) t=t.extract 0 (semi t).toNat::z1u f (t.extract ((semi t).toNat+1) t.size):=by rw[z1u,if_pos h]
theorem zAz{f:Nat}{t:ByteArray}(h: ¬0<=semi t):z1u f t=[t]:=by
 cases f with
 |zero=>rfl
 |succ f=>rw[z1u,if_neg h]
theorem zL9(t:ByteArray)(w:World):zS 97 #[.string t,.string ⟨#[59]⟩] w (E F (semi t)):=Tryz.strings_Index_one t 59 w
theorem zVz(n:Nat)(hn:1<=n)(l Bp Bs Bv n₀:Nat)(h1:Bp≠Bs)(h2:Bv≠Bs)(s:ByteArray)(hs:s.size<=100000)(J Jx:List z2u->World->Prop)(W:World)(hJ:zPl Bs J)
  (hY: ∀(pre:List z2u)(x:z2u) W,J pre W->pre.length<(z0l s).length->YieldAt Fence.wide (n-1) tP l #[.string x.1] W fun e W'=>
   (e= rT (.bool true)/\J (pre++[x]) W'/\z2q n₀ [Bp,Bs,Bv] W W')\/(e= rT (.bool false)/\Jx (pre++[x]) W'))
  (bP:Boxed W Bp 9 (.string ⟨#[59]⟩))(bS:Boxed W Bs 9 (.string s))(bV:Boxed W Bv 3 (E F 0))(h0:J [] W):
  CallsIn Fence.wide n tP 95 #[.func (.yield l) #[] #[],pT (some ⟨Bp,0,none⟩),pT (some ⟨Bs,0,none⟩),pT (some ⟨Bv,0,none⟩)] W fun e W'=>(∃v,e= rT v)/\
   ((∃ys:List z2u,ys.map (·.1)=z0l s/\J ys W')\/(∃pre:List z2u,pre.map (·.1)<+:z0l s/\Jx pre W')):=by
 refine callsIn_of_wp Tryz.func95 rfl trivial ?_ rfl;simp only[Tryz.ntmps95,List.size_toArray,List.length_cons,List.length_nil,Nat.reduceAdd,Nat.reduceSub,Array.replicate_succ,Array.replicate_zero,List.push_toArray,List.append_toArray,List.nil_append,List.cons_append];have hf1:Fence.wide.fn 97:=trivial;have cP:=bP.cell;gi_wp2
 gi_loopw [] (fun wr=> ∃(pre:List z2u)(t:ByteArray)(fuel:Nat),Boxed wr Bs 9 (.string t)/\Boxed wr Bp 9 (.string ⟨#[59]⟩)/\Boxed wr Bv 3 (E F 0)/\pre.map (·.1)++z1u fuel t=z0l s/\t.size<=fuel/\t.size<=100000/\J pre wr) (fun wr=>zHi wr Bs)
 case atStart=>exact⟨[],s,s.size,bS,bP,bV,rfl,Nat.le_refl _,hs,h0⟩
 case round=>
  obtain⟨pre,t,fuel,bS',bP',bV',hacc,hfu,htz,hJr⟩:=hrel;have cS:=bS'.cell;have cP':=bP'.cell;have cV:=bV'.cell;have hsm:=q4z t
  by_cases hi:0<=semi t
  ·obtain⟨f,rfl⟩: ∃f,fuel=f+1:=⟨fuel-1,by omega⟩
   rw[zB0 hi]at hacc;obtain⟨k,hk⟩:=Int.eq_ofNat_of_zero_le hi;rw[hk]at hacc hsm;have hkl:k<t.size:=by have:=hsm.1;omega
   have hlen:pre.length<(z0l s).length:=by rw[<-hacc];simp
   have HA:Hid (pre.map (·.1)++t.extract 0 k::z1u f (t.extract (k+1) t.size)=z0l s):=hacc;have HK:Hid (semi t=k):=hk;clear hacc hi hsm hk;obtain⟨fn,tmps,assign,body,hy,hR⟩:=hY pre ⟨t.extract 0 k,z3y htz _ _⟩ wr hJr hlen;dsimp only at hy;gi_wp2_with (gi_at_call 97;refine(callsIn_wide.2 (zL9 _ _)).mono ?_;rintro e w1 ⟨rfl,rfl⟩;rw[HK.out])
   refine hR.mono ?_;rintro e W3 (⟨rfl,hJ3,hk3⟩|⟨rfl,hJx3⟩)
   ·have bS3:Boxed W3 Bs 9 (.string t):=(hk3.also Bs kS).trans bS'
    have bP3:Boxed W3 Bp 9 (.string ⟨#[59]⟩):=(hk3.also Bp kS).trans bP';have bV3:Boxed W3 Bv 3 (E F 0):=(hk3.also Bv kS).trans bV';have cS3:=bS3.cell;have fS3:=bS3.frozen;have cP3:=bP3.cell;have hz:zHi w1 Bs=t.size:=zAa bS';gi_wp2
    go_roundw
    case rel=>exact⟨pre++[⟨t.extract 0 k,z3y htz _ _⟩],t.extract (k+1) t.size,f,bS3.set _,Boxed.other_box bP3 h1 _,Boxed.other_box bV3 h2 _,by rw[List.map_append,List.append_assoc];exact HA.out,by rw[ByteArray.size_extract];omega,by rw[ByteArray.size_extract];omega,hJ _ _ _ _ hJ3 (z2o (z2g (bF _ _) _) 0 _) (Or.inr ⟨rfl,⟨_,bS3⟩,⟨_,bS3.set _⟩⟩)⟩
    case measure=>rw[hz,zAa (bS3.set _),ByteArray.size_extract];omega
   ·gi_wp2
    refine bodyPost_ret (results_none rfl _ _ _) rfl ?_;exact⟨⟨_,rfl⟩,.inr ⟨_,⟨z1u f (t.extract (k+1) t.size),by rw[List.map_append,List.append_assoc];exact HA.out⟩,hJx3⟩⟩
  ·have x1:decide (semi t<0)=true:=kZ
   rw[zAz hi]at hacc;have hlen:pre.length<(z0l s).length:=by rw[<-hacc];simp
   have HA:Hid (pre.map (·.1)++[t]=z0l s):=hacc;clear hacc hi hsm;obtain⟨fn,tmps,assign,body,hy,hR⟩:=hY pre ⟨t,htz⟩ wr hJr hlen;dsimp only at hy;gi_wp2_with (gi_at_call 97;refine(callsIn_wide.2 (zL9 _ _)).mono ?_;rintro e w1 ⟨rfl,rfl⟩)
   refine hR.mono ?_;rintro e W3 (⟨rfl,hJ3,hk3⟩|⟨rfl,hJx3⟩)
   ·gi_wp2
    go_end0
    exact⟨⟨_,rfl⟩,.inl ⟨_,by rw[List.map_append];exact HA.out,hJ3⟩⟩
   ·gi_wp2
    go_end0
    exact⟨⟨_,rfl⟩,.inr ⟨_,⟨[],by rw[List.map_append,List.append_nil];exact HA.out⟩,hJx3⟩⟩
theorem zK3(s:ByteArray)(w:World):Calls tP 27 #[.string s,.string ⟨#[59]⟩] w fun e w'=>
  e= rT (.func (.func 95) #[] #[pT (some ⟨w.heap.size+1,0,none⟩),pT (some ⟨w.heap.size,0,none⟩),pT (some ⟨w.heap.size+2,0,none⟩)])/\w'=((w.alloc (cT #[.string s] 9)).alloc (cT #[.string ⟨#[59]⟩] 9)).alloc (cT #[E F 0] 3):=by
 go_enter Tryz.func27,Tryz.ntmps27;go_wp2;go_ret;exact⟨rfl,rfl⟩
end
section
open Go.ChangeShapes Go.WideShapes Go.ChangeAt Go.RowKit
theorem first_fault(f:Nat->Int): ∀len:Nat,(∀j,j<len->f j=0)\/ ∃i,i<len/\(∀j,j<i->f j=0)/\f i≠0
 |0=>Or.inl fun j hj=>absurd hj (Nat.not_lt_zero _)
 |n+1=>by
  rcases first_fault f n with h|⟨i,hi,hno,hf⟩
  ·by_cases hn:f n=0
   ·exact Or.inl (zRz h hn)
   ·exact Or.inr ⟨n,Nat.lt_succ_self n,h,hn⟩
  ·exact Or.inr ⟨i,Nat.lt_succ_of_lt hi,hno,hf⟩
theorem zSj{f:Nat->Int}{i k:Nat}(hi: ∀j,j<i->f j=0)(hf:f i≠0)(hk: ∀j,j<k->f j=0)(hg:f k≠0):k=i:=by
 rcases Nat.lt_trichotomy k i with h|h|h
 ·exact absurd (hi k h) hg
 ·exact h
 exact absurd (hk i h) hf
section
variable {bk off len cap:Nat} {C D S O N:Nat->Int} {R:Nat->Bool} {w:World} (h1:1<=len) (h2:len<=200) (hbk:bk<w.heap.size) (hst:z1v w bk off len C D S R O N)
theorem z5z(h: ∀j,j<len->z32 len C D S R O N j=0)(hst:z1v w bk off len C D S R O N)(h1:1<=len)(h2:len<=200)(hbk:bk<w.heap.size):
  zR 74 #[.slice (some ⟨bk,off,none⟩) len cap] w .nilIface:=by
 refine(z9r bk off len cap C D S O N R w h1 h2 hbk hst).mono fun e w' hh=>?_;obtain⟨hb,hh⟩:=hh;rcases hh with⟨he,_⟩|⟨i,p,hi,_,hf,_⟩
 ·exact⟨he,hb⟩
 exact absurd (h i hi) hf
theorem zO6{i:Nat}(hi:i<len)(hno: ∀j,j<i->z32 len C D S R O N j=0)(hf:z32 len C D S R O N i≠0)(hst:z1v w bk off len C D S R O N)(h1:1<=len)(h2:len<=200)(hbk:bk<w.heap.size):
  Calls tP 74 #[.slice (some ⟨bk,off,none⟩) len cap] w fun e w'=> ∃p,e= rT (.iface 166 (pT (some ⟨p,0,none⟩)))/\Below w.heap.size w w'/\p<w'.heap.size/\w'.cell? ⟨p,0,none⟩=some (E F (z32 len C D S R O N i))/\w'.cell? ⟨p,1,none⟩=some (E F i):=by
 refine(z9r bk off len cap C D S O N R w h1 h2 hbk hst).mono fun e w' hh=>?_;obtain⟨hb,hh⟩:=hh;rcases hh with⟨_,h⟩|⟨k,p,hk,hno',hf',he,hp,hc0,hc1⟩
 ·exact absurd (h i hi) hf
 obtain rfl:=zSj hno hf hno' hf';refine⟨p,he,hb,?_,hc0,hc1⟩;rcases Nat.lt_or_ge p w'.heap.size with g|g
 ·exact g
 simp[World.cell?,Array.getElem?_eq_none g]at hc0
end
end
end Go.Proofs.YtkdflpplamebkaaGreatDoor
