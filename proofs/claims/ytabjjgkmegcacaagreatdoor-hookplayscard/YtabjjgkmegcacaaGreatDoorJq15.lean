/-
A part of the proof of HookPlays; its card says what is proved.
-/
import Derived.Test.YtabjjgkmegcacaaGreatDoorJq14
import Derived.Deep.Slices
set_option maxHeartbeats 40000000
open Go.Value renaming int → A
open Go.IntKind renaming i64 → E
open Go.RowKit.Below renaming alloc → bA, setCell → bS, drew → bD, refl → bF
set_option maxRecDepth 1000000
set_option linter.defProp false
set_option linter.unusedVariables false
set_option linter.unusedSimpArgs false
open Go.Ending renaming returned → rT
open Go.Value renaming pointer → pT
open Go.Obj renaming cells → cT
open Go.Proofs.Tryz renaming prog → tP
namespace Go.Proofs.YtabjjgkmegcacaaGreatDoor
open Go.ChangeShapes Go.WideShapes Go.ChangeAt Go.RowKit
section
attribute [local simp] z0p z0j z04
def Twin(w:World)(pa pb:Option Addr)(n:Nat):Prop:=
 n=0\/ ∃(ga gb:Nat)(L:Nat->Int),pa=some ⟨ga,0,none⟩/\pb=some ⟨gb,0,none⟩/\ ∀i,i<n->w.cell? ⟨ga,i,none⟩=some (A E (L i))/\w.cell? ⟨gb,i,none⟩=some (A E (L i))
theorem zL4{w:World}{b:Nat}{e:TypeId}{v:Value}{L:List Int}(h:w.ownsRow b e 1 v L.length (L.map (Value.int .i64))): ∃p c,v= .slice p L.length c/\(L.length=0\/ ∃g,p=some ⟨g,0,none⟩/\ ∀i,i<L.length->w.cell? ⟨g,i,none⟩=some (A E (L.getD i 0))):=by
 rcases h.2 with⟨hv,hn⟩|⟨g,cap,cur,hv,_,hh,hle,_,hs,ht⟩
 ·exact⟨none,0,by rw[hv,hn],Or.inl hn⟩
 refine⟨some ⟨g,0,none⟩,cap,hv,Or.inr ⟨g,rfl,fun i hi=>?_⟩⟩;rw[cell_of_row w g i cur e _ hh];have e1:(cur.toList.take (L.length*1))[i]?=(L.map (Value.int .i64))[i]?:=by rw[ht]
 rw[List.getElem?_take,if_pos kO,List.getElem?_map]at e1;rw[<-Array.getElem?_toList,e1,List.getElem?_eq_getElem hi];simp[List.getD,hi]
theorem zU9{w:World}{b:Nat}{e:TypeId}{v:Value}{L:List Int}(h:w.ownsRow b e 1 v L.length (L.map (Value.int .i64))):(L.length:Int)<=9223372036854775807:=by
 rcases h.2 with⟨_,hn⟩|⟨g,cap,cur,_,_,_,hle,hm,_⟩
 ·omega
 unfold maxLen at hm;omega
theorem zXf{w:World}{b b':Nat}{e e':TypeId}{v v':Value}{L:List Int}(h:w.ownsRow b e 1 v L.length (L.map (Value.int .i64)))(h':w.ownsRow b' e' 1 v' L.length (L.map (Value.int .i64))): ∃p c p' c',v= .slice p L.length c/\v'= .slice p' L.length c'/\Twin w p p' L.length:=by
 obtain⟨p,c,hv,k⟩:=zL4 h;obtain⟨p',c',hv',k'⟩:=zL4 h';refine⟨p,c,p',c',hv,hv',?_⟩;rcases k with k|⟨g,hp,k⟩
 ·exact Or.inl k
 rcases k' with k'|⟨g',hp',k'⟩
 ·exact Or.inl k'
 exact Or.inr ⟨g,g',fun i=>L.getD i 0,hp,hp',fun i hi=>⟨k i hi,k' i hi⟩⟩
theorem zTb(pa pb:Option Addr)(n ca cb:Nat)(hn:(n:Int)<=9223372036854775807)(w:World)(h:Twin w pa pb n):
  zR 39 #[.slice pa n ca,.slice pb n cb] w (.bool true):=by
 have HT:Hid (Twin w pa pb n):=h;clear h;have z:((n:Int) !=(n:Int))=false:=by simp
 go_enter Tryz.func39,Tryz.ntmps39;go_wp2_with fail;go_loopw [5] (fun ix wr=> ∃k:Nat,k<=n/\ix=A E k/\Below w.heap.size w wr) (fun ix _=>n-(intOf ix).toNat)
 case atStart=>exact⟨0,Nat.zero_le _,rfl,bF _ _⟩
 case round=>
  obtain⟨k,hk,rfl,hb⟩:=hrel;have hk0:(0:Int)<=(k:Int):=kO
  by_cases hlt:k<n
  ·rcases HT.out with h0|⟨ga,gb,L,ha,hb',hc⟩
   ·omega
   subst ha;subst hb';obtain⟨c0,c1⟩:=hc k hlt;have l0:=World.block_lt_of_cell? w _ c0;have l1:=World.block_lt_of_cell? w _ c1;have d0:=(hb.cell (p:=⟨ga,k,none⟩) l0).trans c0;have d1:=(hb.cell (p:=⟨gb,k,none⟩) l1).trans c1;have hk1:(k:Int)<n:=kO;have hk2:(k:Int)+1<=9223372036854775807:=kO;have zz:(L k !=L k)=false:=by simp
   clear hc c0 c1 HT;go_wp2_with fail;go_region
   all_goals go_wp2
   all_goals go_roundw
   case rel=>exact⟨k+1,by omega,by go_num,kB⟩
   case measure=>simp[intOf];omega
  ·obtain rfl:k=n:=by omega
   go_wp2;go_ret;exact⟨rfl,hb⟩
end
section
set_option maxHeartbeats 40000000
set_option maxRecDepth 1000000
structure Ab where
 what:Int
 hook:Int
 id:Int
 rank:Int
 code:Value
 xs:List St
 T:Nat->Int
def Ab.cs(x:Ab):Array Value:=#[A E x.what,A E x.hook,A E x.id,A E x.rank,x.code,A E (x.T 0),A E (x.T 1),A E (x.T 2),A E (x.T 3),A E (x.T 4),A E (x.T 5),A E (x.T 6),A E (x.T 7)]
theorem zFu{w:World}{s:Sd}{v1 v2:Value}{b b':Nat}(h1:w.ownsRow b 2 1 v1 s.out.length (s.out.map (Value.int .i64)))(h2:w.ownsRow b' 2 1 v2 s.out.length (s.out.map (Value.int .i64))):zR 25 #[.agg (z13 s v1),.agg (z13 s v2)] w (.bool true):=by
 obtain⟨p,c,p',c',rfl,rfl,hT⟩:=zXf h1 h2;have hR:=zU9 h1;obtain⟨n,hn⟩: ∃n,Hid (s.out.length=n):=⟨_,rfl⟩;rw[hn.out]at hT hR⊢;have HT:Hid (∀W,Below w.heap.size w W->zR 39 #[.slice p n c,.slice p' n c'] W (.bool true)):=fun W hW=>zTb p p' n c c' hR W (hT.imp id fun⟨ga,gb,L,e1,e2,h⟩=>⟨ga,gb,L,e1,e2,fun i hi=>⟨(hW.cell (p:=⟨ga,i,none⟩) (World.block_lt_of_cell? w _ (h i hi).1)).trans (h i hi).1,(hW.cell (p:=⟨gb,i,none⟩) (World.block_lt_of_cell? w _ (h i hi).2)).trans (h i hi).2⟩⟩);unfold zR z13;clear h1 h2 hT hR;have z1:(s.bf==s.bf)=true:=by simp
 have z2:(s.num==s.num)=true:=by simp
 have z3:(s.steps==s.steps)=true:=by simp
 go_in
 go_upto_region 1 with fail
 refine gnl (W:=w) kMm ?_;intro w1 hM;simp only[World.size_alloc]at hM;have F:=hM.x;simp only[Mx]at F;go_wp2_with(go_at_call 39;refine cR (HT.out _ hM.b) ?_;intro w2 hb2;have hb3:=hM.b.trans (hb2.mono hM.b.size));go_ret;exact⟨rfl,hb3⟩
theorem z3p.bare{n:Nat}{w:World}{I:Value}{er:Int}(h:z3p n w I er (-1))(hg:z1i w):zR 5 #[I,A E er] w (.bool true):=by
 have H:Hid (∀W,Below w.heap.size w W->zR 13 #[I,.agg #[A E er,A E (-1)]] W (.bool true)):=fun W hW=>(h.later hW).is (hg.later hW);clear h;unfold zR;go_in
 go_wp2_with(first|(go_at_call 13;refine cR (H.out _ hb1) ?_;intro w2 hb2;have hb3:Below w.heap.size w w2:=hb1.trans (hb2.mono hb1.size))|(go_at_call 14;refine cR (zI8 _ _) ?_;intro w1 hb1));go_ret;exact⟨rfl,hb3⟩
def ActQ(w0:World)(base B D:Nat)(M:Int)(e:Ending)(w':World):Prop:=e= rT (.bool true)/\ ∃d' r',Hp w0 base B D d' r' (M+60) w'
theorem VerT.later{w w':World}{l:Value}{er ip:Int}(h:VerT w l er ip)(hb:Below w.heap.size w w'):VerT w' l er ip:=fun W hW=>h W (hb.trans (hW.mono hb.size))
theorem LsAt.low{w:World}{l:Value}{xs:List St}(h:LsAt w l xs)(h1:1<=xs.length): ∀a n c,l= .slice (some a) n c->a.block<w.heap.size:=fun a n c e=>by
 obtain⟨a',cap,e',h2⟩:=h.lies;rw[e]at e';injection e' with e1 e2 e3
 rcases h2 with h2|⟨bk,off,h3,h4,h5⟩
 ·omega
 ·rw[h3]at e1
  rw[Option.some.inj e1];exact h4
theorem rd_c{w:World}{D k:Nat}{r:Rdk}(h:w.heap[D]?=some (cT (rdCs r) 46 (0,0)))(hk:k<3):w.cell? ⟨D,k,none⟩=some (pT (some ⟨r.c k,0,none⟩)):=(z7o h hk).1
def Wh(w c:Int):Prop:= ∀j:Int,(w==j)=(c==j)
theorem wh_cases(w:Int):Wh w 0\/Wh w 1\/Wh w 2\/Wh w 3\/Wh w 4\/Wh w 5\/ ∀j:Int,0<=j->j<=5->(w==j)=false:=by
 rcases(show w=0\/w=1\/w=2\/w=3\/w=4\/w=5\/(w<0\/5<w)by omega)with rfl|rfl|rfl|rfl|rfl|rfl|h
 ·exact .inl fun _=>rfl
 ·exact .inr (.inl fun _=>rfl)
 ·exact .inr (.inr (.inl fun _=>rfl))
 ·exact .inr (.inr (.inr (.inl fun _=>rfl)))
 ·exact .inr (.inr (.inr (.inr (.inl fun _=>rfl))))
 ·exact .inr (.inr (.inr (.inr (.inr (.inl fun _=>rfl)))))
 exact .inr (.inr (.inr (.inr (.inr (.inr fun j h1 h2=>by simp;omega)))))
theorem zDr{V:World}{g:Nat}{x:Ab}(h:V.heap[g]?=some (cT x.cs 36 (0,0))):V.rangeAt g 5 (z06 x.T).toList:=fun j u hu=>by
 have hj:j<8:=(List.getElem?_eq_some_iff.1 hu).1;rw[cell_of_row V g (5+j) _ _ _ h];rw[<-hu];rcases(show j=0\/j=1\/j=2\/j=3\/j=4\/j=5\/j=6\/j=7 by omega)with rfl|rfl|rfl|rfl|rfl|rfl|rfl|rfl<;>rfl
theorem zDa: ∀(ds:List Dn)(q j:Nat)(x:Dn),ds[q]?=some x->j<5->(z4s ds)[q*5+j]?=x.cells[j]?
 |[],q,j,x,h,_=>by simp at h
 |y::ds,0,j,x,h,hj=>by
  obtain rfl:y=x:=by simpa using h
  show(y.cells++z4s ds)[0*5+j]?=_;rw[Nat.zero_mul,Nat.zero_add,List.getElem?_append_left (show j<5 from hj)]
 |y::ds,q+1,j,x,h,hj=>by
  have h':ds[q]?=some x:=by simpa using h
  show(y.cells++z4s ds)[(q+1)*5+j]?=_;rw[List.getElem?_append_right (show 5<=(q+1)*5+j by omega)];show(z4s ds)[(q+1)*5+j-5]?=_;rw[show(q+1)*5+j-5=q*5+j by omega];exact zDa ds q j x h' hj
theorem zLk{w:World}{base gd cap q:Nat}{t:TypeId}{ds:List Dn}{x:Dn}(h:w.ownsRow base t 5 (.slice (some ⟨gd,0,none⟩) ds.length cap) ds.length (z4s ds))(hq:ds[q]?=some x):w.rangeAt gd (q*5) x.cells/\w.rangeAt gd (q*5+1) (z13 x.s x.v).toList:=by
 have e:w.rangeAt gd (q*5) x.cells:=fun j v hv=>by
  have hj:j<5:=(List.getElem?_eq_some_iff.1 hv).1;have hc:=World.ownsRow.cells h (g:=gd) rfl (q*5+j) v (by rw[zDa ds q j x hq hj];exact hv);rw[Addr.add_mid,Nat.zero_add]at hc;exact hc
 refine⟨e,fun j v hv=>?_⟩;rw[Nat.add_assoc];refine e (1+j) v ?_;rw[<-hv,Nat.add_comm];rfl
theorem zGk{o:Oper}{u:Act}{x:Operand}{W:World}{t:TypeId}{b off:Nat}{s:Sd}{v:Value}{dd:TypeDesc}(hW:W.rangeAt b off (z13 s v).toList)(ho:o.op= .load t x)(hx:u.eval x= pT (some ⟨b,off,none⟩))(hu:Tryz.prog.underlying t=some dd)(hd:dd.isRow=true)(hi:(Tryz.prog.info? t).map (·.size)=some 4):(execOp u.eval o).run tP W= .ok (.value (.agg (z13 s v))) W:=by
 have hl:=run_loadVar_mid (P:=tP) W b off t (z13 s v).toList _ hW hu hd hi;unfold execOp;simp only[ho,hx,Instr.loadAt,Instr.sureAddr,Sem.run_bind,Sem.run_pure,Result.andThen_ok,hl]
theorem zTa{ds ds':List Dn}{L:List (Nat×Sd)}(h1:(ds.map fun x=>(x.k,x.s))=L)(h2:(ds'.map fun x=>(x.k,x.s))=L){q:Nat}{x:Dn}(hq:ds[q]?=some x): ∃y,ds'[q]?=some y/\y.k=x.k/\y.s=x.s:=by
 have e:(ds'.map fun x=>(x.k,x.s))[q]?=some (x.k,x.s):=by rw[h2, <-h1,List.getElem?_map,hq];rfl
 rw[List.getElem?_map]at e
 cases hy:ds'[q]? with
 |none=>rw[hy]at e;cases e
 |some y=>
  rw[hy]at e;have e:(y.k,y.s)=(x.k,x.s):=Option.some.inj e;injection e with e1 e2
  exact⟨y,rfl,e1,e2⟩
theorem z9l{v:Value}{n:Nat}(h:(v= .slice none 0 0/\n=0)\/ ∃g c,v= .slice (some ⟨g,0,none⟩) n c): ∃p c,v= .slice p n c:=by
 rcases h with⟨rfl,rfl⟩|⟨g,c,rfl⟩
 ·exact⟨_,_,rfl⟩
 exact⟨_,_,rfl⟩
theorem zT7{w:World}{b z n m c:Nat}{e:TypeId}{p:Option Addr}{xs:List Value}(h:w.ownsRow b e z (.slice p m c) n xs)(hn:n≠0): ∃g,p=some ⟨g,0,none⟩:=by
 rcases rowShape h with⟨-,h0⟩|⟨g,c,e⟩
 ·exact absurd h0 hn
 cases e;exact⟨g,rfl⟩
theorem zLl{w:World}{g q:Nat}{x:Dn}(h:w.rangeAt g (q*5) x.cells):w.cell? ⟨g,q*5,none⟩=some (A E (x.k:Int)):=h 0 _ rfl
theorem zJo{o:Oper}{u:Act}{x:Operand}{W:World}{g i:Nat}{z:Int}(h:W.cell? ⟨g,i,none⟩=some (A E z))(ho:o.op= .load 3 x)(hx:u.eval x= pT (some ⟨g,i,none⟩)):(execOp u.eval o).run tP W= .ok (.value (A E z)) W:=by
 unfold execOp;simp only[ho,hx];go_simp
section
variable {w0 w:World} {base B D k:Nat} {d:Dsk} {r:Rdk} {M:Int}
theorem acts_k(h:Hp w0 base B D d r M w)(hM0:0<=M)(hM:M<=800000)(hk:k<3)(hA:z2z w0)(hg:z1i w0)(id rank:Int)(la:Option Addr)(cap:Nat)(xs:List St)(T:Nat->Int)(hl:LsAt w0 (.slice la xs.length cap) xs)(hT: ∀i,i<8->In64 (T i))(hid:In64 id)(what:Int):Calls tP 7 #[pT (some ⟨B,0,none⟩),pT (some ⟨D,0,none⟩),.agg (Ab.cs ⟨what,k,id,rank,.slice la xs.length cap,xs,T⟩)] w (ActQ w0 base B D M):=by
 obtain⟨N,hN⟩: ∃N,Hid (xs.length=N):=⟨_,rfl⟩;rw[hN.out]at hl⊢;have k0:(0:Int)<=(k:Int):=kO;have k1:(k:Int)<3:=kO;replace hl:Hid _:=hl
 replace hT:Hid _:=hT
 have k2:decide ((k:Int)<0)=false:=by simp
 have k3:decide (2<(k:Int))=false:=kZ;go_in
 go_upto_region 1 with fail
 refine gnl (W:=w) kMm ?_;intro w1 hM1;have F:=hM1.x;simp only[Mx,Ab.cs]at F;go_upto_region 6 with(go_at_call 8;refine cS (zGv B k hk _) ?_)
 clear F;have hP:=(h.later hM1.b).later ((bF w1.heap.size w1).drew);have hS:w1.drew.heap[D]?=some (cT (rdCs r) 46 (0,0))/\w1.drew.heap[w.heap.size]?=some (cT (Ab.cs ⟨what,k,id,rank,.slice la N cap,xs,T⟩) 36 (0,0)):=⟨hP.ra.box,hM1.row kMe⟩;refine wp_region_held_drew (S:=fun U=>U.heap[D]?=some (cT (rdCs r) 46 (0,0))/\U.heap[w.heap.size]?=some (cT (Ab.cs ⟨what,k,id,rank,.slice la N cap,xs,T⟩) 36 (0,0))) kR hS fun _=>?_;change wpAnyH _ _ _ _ _ 8 (Array.replicate 8 false) _ _
 clear hM1;generalize w1.drew=w2 at*;refine kTk 0 53 (pT (some ⟨D,0,none⟩)) ?_;refine kTk 1 54 (pT (some ⟨w.heap.size,1,none⟩)) ?_;refine tkH (i:=2) (some 55) (A E (k:Int)) rfl rfl (fun V hV=>by have F:=(Mm.cons (Mm.start V) hV.2).x;simp only[Mx,Ab.cs]at F;go_simp) hS ?_;simp only[pS];refine kTk 3 56 (pT (some ⟨D,0,none⟩)) ?_;refine kTk 4 57 (pT (some ⟨D,0,none⟩)) ?_;refine kTk 5 58 (pT (some ⟨D,k,none⟩)) ?_;refine tkH (i:=6) (some 59) (pT (some ⟨r.c k,0,none⟩)) rfl rfl (fun V hV=>by have F:=rd_c hV.1 hk;go_simp) hS ?_;simp only[pS];refine kTk 7 9 (pT (some ⟨r.c k,0,none⟩)) ?_;refine wpAnyH_done kR ?_ _;replace hS:=hS.2
 clear h;generalize w.heap.size=g at*;replace hP:Hid _:=hP
 have F:=(Mm.cons (Mm.start w2) hS).x;simp only[Mx,Ab.cs]at F;rcases wh_cases what with hw|hw|hw|hw|hw|hw|hw
 ·as_aux_lemma=>
  unfold Wh at hw;obtain⟨ER,IR,HF,HV⟩:=zPc (by rw[hN.out];exact hl.out) hA;rw[hN.out]at HV;have hl2:=hl.out.later hP.out.bl;have hV2:=HV.later hP.out.bl;have HAD:=zZi (rank:=rank) hP.out kO hk (by rw[hN.out];exact hl2) HF (by rw[hN.out];exact hV2);rw[hN.out]at HAD;clear hV2 hl2;go_upto_region 10 with(go_at_call 16;refine HAD.mono ?_;rintro e w3 ⟨r',id',er,ir,rfl,hr3,hf3,hA3⟩;have hS3:=(hf3.2.2 g _ _ _ hS kD kD kD kD).trans hS;clear F;have F:=(Mm.cons (Mm.start w3) hS3).x;simp only[Mx,Ab.cs]at F)
  clear HAD;refine gnl (W:=w3) kMm ?_;intro w4 hM4;have hb4:=hM4.b;have hS4:=(hb4.block g (Array.getElem?_eq_some_iff.1 hS3).1).trans hS3;clear F;have F:=(Mm.cons hM4 hS4).x;simp[Mx,Ab.cs,mput,nz]at F;have hf4:=hf3.trans (Fr.of hb4 (Nat.le_trans hP.out.ra.bs hf3.1.size));have hr4:=hr3.later hb4;have HAP:=zWe hP.out hM0 kO hk hf4 hr4 (by rw[hN.out];exact hl.out.later (hP.out.low hf4)) (fun h1 a n c e=>by have:=hl.out.low h1 a n c (by rw[<-hN.out];exact e);have:=hP.out.lo.1;omega) HF hA3;rw[hN.out]at HAP;have hD4:=(hP.out.ok.fr hf4).at_;have hFt:=hM4.row (g:=w3.heap.size) (cs:=#[A E er,A E ir]) (t:=75) (by simp[mput]);clear hM4;go_upto_region 11 with(go_at_call 17;refine HAP.mono ?_;rintro e w5 ⟨I,d',rfl,hE5,hP5,hk5⟩;have hF5:=(hk5.tag hD4 hFt kD).trans hFt;replace hE5:Hid (z3p w4.heap.size w5 I er ir):=hE5)
  clear F HAP;have F:=(Mm.cons (Mm.start w5) hF5).x;simp only[Mx]at F;have z:(id'==id')=true:=by simp
  go_wp2_with(go_at_call 13;refine cR (hE5.out.is (hg.later hP5.bl)) ?_;intro w6 hb6);go_ret;exact⟨rfl,d',r',(hP5.later hb6).mono kO⟩
 ·as_aux_lemma=>
  unfold Wh at hw;go_upto_region 13 with fail
  clear F;have hP:=hP.out.later ((bF w2.heap.size w2).drew);have hS:w2.drew.heap[g]?=some (cT (Ab.cs ⟨what,k,id,rank,.slice la N cap,xs,T⟩) 36 (0,0)):=hS;refine wp_region_held_drew (S:=fun U=>U.heap[g]?=some (cT (Ab.cs ⟨what,k,id,rank,.slice la N cap,xs,T⟩) 36 (0,0))) kR hS fun _=>?_;change wpAnyH _ _ _ _ _ 10 (Array.replicate 10 false) _ _
  generalize w2.drew=w3 at*;refine kTk 0 92 (pT (some ⟨B,k*317,none⟩)) ?_;refine kTk 1 93 (pT (some ⟨g,2,none⟩)) ?_;refine tkH (i:=2) (some 94) (A E id) rfl rfl (fun V hV=>by have F:=(Mm.cons (Mm.start V) hV).x;simp only[Mx,Ab.cs]at F;go_simp) hS ?_;simp only[pS];refine kTk 4 96 (pT (some ⟨r.c k,0,none⟩)) ?_;refine kTk 5 97 (pT (some ⟨g,2,none⟩)) ?_;refine tkH (i:=6) (some 98) (A E id) rfl rfl (fun V hV=>by have F:=(Mm.cons (Mm.start V) hV).x;simp only[Mx,Ab.cs]at F;go_simp) hS ?_;simp only[pS];refine wpAnyH_ready (rs:=[3]) kR kS ?_;refine z3h (some 95) 18 #[pT (some ⟨B,k*317,none⟩),A E id] rfl rfl kI kG ?_ AllReadyH.nil;refine(zVm hP hk id).mono ?_;rintro e w4 ⟨I,er,d4,rfl,hE4,hkp,hok,hD4⟩;have hS4:=(hkp.tag hP.ok.at_ hS kD).trans hS;refine⟨_,rfl,hS4,?_⟩;simp only[pS];refine wpAnyH_ready (rs:=[7]) kR kS ?_;refine z3h (some 99) 19 #[pT (some ⟨r.c k,0,none⟩),A E id] rfl rfl kI kG ?_ AllReadyH.nil;refine(zZa hP hk hkp hok hD4).mono ?_;rintro e w5 ⟨rfl,r',hP5,hf5⟩;have hS5:=(hf5.2.2 g _ _ _ hS4 kD kD kD kD).trans hS4;refine⟨_,rfl,hS5,?_⟩;simp only[pS];refine wpAnyH_ready (rs:=[8]) kR kS ?_;refine z3h (some 100) 5 #[I,A E er] rfl rfl kI kG ?_ AllReadyH.nil;refine((hE4.on hf5.1.size fun j h1 h2=>absurd h2 (Nat.not_lt_of_le h1)).bare (hg.later hP5.bl)).mono ?_;rintro e w6 ⟨rfl,hb6⟩;refine⟨_,rfl,(hb6.block g (Array.getElem?_eq_some_iff.1 hS5).1).trans hS5,?_⟩;simp only[pS];refine tkH (i:=9) (some 6) (.bool true) rfl rfl (fun V hV=>kG) ((hb6.block g (Array.getElem?_eq_some_iff.1 hS5).1).trans hS5) ?_;simp only[pS];refine wpAnyH_done kR ?_ _;go_wp2_with fail;go_ret;exact⟨rfl,_,r',(hP5.later hb6).mono kO⟩
 ·as_aux_lemma=>
  unfold Wh at hw;go_upto_region 15 with fail
  clear F;have hP:=hP.out.later ((bF w2.heap.size w2).drew);have hS:w2.drew.heap[g]?=some (cT (Ab.cs ⟨what,k,id,rank,.slice la N cap,xs,T⟩) 36 (0,0)):=hS;refine wp_region_held_drew (S:=fun U=>U.heap[g]?=some (cT (Ab.cs ⟨what,k,id,rank,.slice la N cap,xs,T⟩) 36 (0,0))) kR hS fun _=>?_;change wpAnyH _ _ _ _ _ 14 (Array.replicate 14 false) _ _
  generalize w2.drew=w3 at*;refine kTk 0 103 (pT (some ⟨B,k*317,none⟩)) ?_;refine kTk 1 104 (pT (some ⟨g,2,none⟩)) ?_;refine tkH (i:=2) (some 105) (A E id) rfl rfl (fun V hV=>by have F:=(Mm.cons (Mm.start V) hV).x;simp only[Mx,Ab.cs]at F;go_simp) hS ?_;simp only[pS];refine kTk 3 106 (pT (some ⟨g,4,none⟩)) ?_;refine tkH (i:=4) (some 107) (.slice la N cap) rfl rfl (fun V hV=>by have F:=(Mm.cons (Mm.start V) hV).x;simp only[Mx,Ab.cs]at F;go_simp) hS ?_;simp only[pS];refine kTk 6 109 (pT (some ⟨r.c k,0,none⟩)) ?_;refine kTk 7 110 (pT (some ⟨g,2,none⟩)) ?_;refine tkH (i:=8) (some 111) (A E id) rfl rfl (fun V hV=>by have F:=(Mm.cons (Mm.start V) hV).x;simp only[Mx,Ab.cs]at F;go_simp) hS ?_;simp only[pS];refine kTk 9 112 (pT (some ⟨g,4,none⟩)) ?_;refine tkH (i:=10) (some 113) (.slice la N cap) rfl rfl (fun V hV=>by have F:=(Mm.cons (Mm.start V) hV).x;simp only[Mx,Ab.cs]at F;go_simp) hS ?_;simp only[pS];obtain⟨ER,IR,HF,HV⟩:=zPc (by rw[hN.out];exact hl.out) hA;rw[hN.out]at HV;have HRP:=zTk hP hk id (by rw[hN.out];exact hl.out.later hP.bl) HF;rw[hN.out]at HRP;refine wpAnyH_ready (rs:=[5]) kR kS ?_;refine z3h (some 108) 20 #[pT (some ⟨B,k*317,none⟩),A E id,.slice la N cap] rfl rfl kI kG ?_ AllReadyH.nil;refine(HRP).mono ?_;rintro e w4 ⟨I,er,ir,d4,rfl,hE4,hkp,hok,hD4⟩;have hS4:=(hkp.tag hP.ok.at_ hS kD).trans hS;refine⟨_,rfl,hS4,?_⟩;simp only[pS];refine wpAnyH_ready (rs:=[11]) kR kS ?_;refine z3h (some 114) 21 #[pT (some ⟨r.c k,0,none⟩),A E id,.slice la N cap] rfl rfl kI kG ?_ AllReadyH.nil;have hl4:=hl.out.later (z6h hP.bl hkp hP.lo.1);have HRD:=zXy (id:=id) hP hk hkp hok (by rw[hN.out];exact hl4) HF (by rw[hN.out];exact HV.later (z6h hP.bl hkp hP.lo.1)) hD4;rw[hN.out]at HRD;refine(HRD).mono ?_;rintro e w5 ⟨rfl,r',hP5,hf5,hn5⟩;have hS5:=(hf5.2.2 g _ _ _ hS4 kD kD kD kD).trans hS4;refine⟨_,rfl,hS5,?_⟩;simp only[pS];refine wpAnyH_ready (rs:=[12]) kR kS ?_;refine z3h (some 115) 13 #[I,.agg #[A E er,A E ir]] rfl rfl kI kG ?_ AllReadyH.nil;refine((hE4.on hf5.1.size hn5).is (hg.later hP5.bl)).mono ?_;rintro e w6 ⟨rfl,hb6⟩;refine⟨_,rfl,(hb6.block g (Array.getElem?_eq_some_iff.1 hS5).1).trans hS5,?_⟩;simp only[pS];refine tkH (i:=13) (some 6) (.bool true) rfl rfl (fun V hV=>kG) ((hb6.block g (Array.getElem?_eq_some_iff.1 hS5).1).trans hS5) ?_;simp only[pS];refine wpAnyH_done kR ?_ _;go_wp2_with fail;go_ret;exact⟨rfl,_,r',(hP5.later hb6).mono kO⟩
 ·as_aux_lemma=>
  unfold Wh at hw;go_upto_region 17 with fail
  clear F;have hP:=hP.out.later ((bF w2.heap.size w2).drew);have hS:w2.drew.heap[g]?=some (cT (Ab.cs ⟨what,k,id,rank,.slice la N cap,xs,T⟩) 36 (0,0)):=hS;refine wp_region_held_drew (S:=fun U=>U.heap[g]?=some (cT (Ab.cs ⟨what,k,id,rank,.slice la N cap,xs,T⟩) 36 (0,0))) kR hS fun _=>?_;change wpAnyH _ _ _ _ _ 14 (Array.replicate 14 false) _ _
  generalize w2.drew=w3 at*;refine kTk 0 118 (pT (some ⟨B,0,none⟩)) ?_;refine kTk 1 119 (pT (some ⟨g,1,none⟩)) ?_;refine tkH (i:=2) (some 120) (A E (k:Int)) rfl rfl (fun V hV=>by have F:=(Mm.cons (Mm.start V) hV).x;simp only[Mx,Ab.cs]at F;go_simp) hS ?_;simp only[pS];refine kTk 3 121 (pT (some ⟨g,5,none⟩)) ?_;refine tkH (i:=4) (some 122) (.agg (z06 T)) rfl rfl (fun V hV=>z7w (zDr hV) rfl rfl) hS ?_;simp only[pS];refine kTk 6 124 (pT (some ⟨D,0,none⟩)) ?_;refine kTk 7 125 (pT (some ⟨g,1,none⟩)) ?_;refine tkH (i:=8) (some 126) (A E (k:Int)) rfl rfl (fun V hV=>by have F:=(Mm.cons (Mm.start V) hV).x;simp only[Mx,Ab.cs]at F;go_simp) hS ?_;simp only[pS];refine kTk 9 127 (pT (some ⟨g,5,none⟩)) ?_;refine tkH (i:=10) (some 128) (.agg (z06 T)) rfl rfl (fun V hV=>z7w (zDr hV) rfl rfl) hS ?_;simp only[pS];refine wpAnyH_ready (rs:=[5]) kR kS ?_;refine z3h (some 123) 15 #[pT (some ⟨B,0,none⟩),A E (k:Int),.agg (z06 T)] rfl rfl kI kG ?_ AllReadyH.nil;refine(zYv hP hk hT.out).mono ?_;rintro e w4 ⟨I,er,d4,rfl,hE4,hkp,hok,hD4⟩;have hS4:=(hkp.tag hP.ok.at_ hS kD).trans hS;refine⟨_,rfl,hS4,?_⟩;simp only[pS];refine wpAnyH_ready (rs:=[11]) kR kS ?_;refine z3h (some 129) 22 #[pT (some ⟨D,0,none⟩),A E (k:Int),.agg (z06 T)] rfl rfl kI kG ?_ AllReadyH.nil;refine(ev_doc hP hk hkp hok hD4).mono ?_;rintro e w5 ⟨rfl,r',hP5,hf5⟩;have hS5:=(hf5.2.2 g _ _ _ hS4 kD kD kD kD).trans hS4;refine⟨_,rfl,hS5,?_⟩;simp only[pS];refine wpAnyH_ready (rs:=[12]) kR kS ?_;refine z3h (some 130) 5 #[I,A E er] rfl rfl kI kG ?_ AllReadyH.nil;refine((hE4.on hf5.1.size fun j h1 h2=>absurd h2 (Nat.not_lt_of_le h1)).bare (hg.later hP5.bl)).mono ?_;rintro e w6 ⟨rfl,hb6⟩;refine⟨_,rfl,(hb6.block g (Array.getElem?_eq_some_iff.1 hS5).1).trans hS5,?_⟩;simp only[pS];refine tkH (i:=13) (some 6) (.bool true) rfl rfl (fun V hV=>kG) ((hb6.block g (Array.getElem?_eq_some_iff.1 hS5).1).trans hS5) ?_;simp only[pS];refine wpAnyH_done kR ?_ _;go_wp2_with fail;go_ret;exact⟨rfl,_,r',(hP5.later hb6).mono kO⟩
 ·as_aux_lemma=>
  unfold Wh at hw;go_upto_region 20 with(first|(go_at_call 23;refine(zXv hP.out hM0 kO).mono ?_;rintro e w3 ⟨vb,db,r',rfl,hr3,hf3,he3,hd3,hm3,hl3⟩)|(go_at_call 24;refine(zTh hP.out hM0 kO hf3 hr3 he3).mono ?_;rintro e w4 ⟨va,da,rfl,hk4,hP4,hd4,hm4,hl4⟩))
  have hd5:z9g w4 w2.heap.size vb db:=hd3.on fun j cs t hj ht=>hk4.tag (hP.out.ok.fr hf3).at_ hj (by rcases ht with rfl|rfl<;>decide);have hQ:Hid (Hp w0 base B D (z0z 3 d).1 r' (M+60) w4):=hP4;have hlen:da.length=db.length:=by have e:=congrArg List.length (hm4.trans hm3.symm);simpa using e
  obtain⟨n,hn⟩: ∃n,Hid (db.length=n):=⟨_,rfl⟩;rw[hn.out]at hlen;have hn60:n<=60:=by rw[<-hn.out];exact hl3
  have HS:Hid (DnAt w4 w3.heap.size va da/\z9g w4 w2.heap.size vb db/\(da.map fun x=>(x.k,x.s))=(z0z 3 d).2/\(db.map fun x=>(x.k,x.s))=(z0z 3 d).2):=⟨hd4,hd5,hm4,hm3⟩;have sa:=rowShape hd4.1;have sb:=rowShape hd5.1;rw[hlen]at sa;rw[hn.out]at sb;obtain⟨pa,ca,rfl⟩:=z9l sa;obtain⟨pb,cb,rfl⟩:=z9l sb;have z:((n:Int) !=(n:Int))=false:=by simp
  clear hP4 hd3 hm3 hl3 hd4 hm4 hl4 hd5 hr3 he3 hf3 hP hk4 sa sb F;go_wp2_with fail;go_loopw [16] (fun jv wr=> ∃j:Nat,jv=A E j/\j<=n/\Hid (Below w4.heap.size w4 wr)) (fun jv _=>n-(intOf jv).toNat)
  case atStart=>exact⟨0,rfl,Nat.zero_le _,bF _ _⟩
  case round=>
   obtain⟨j,rfl,hj,HB⟩:=hrel;have j0:(0:Int)<=(j:Int):=kO
   by_cases hjn:j<n
   ·have j1:(j:Int)<(n:Int):=kO
    obtain⟨x,hx⟩: ∃x,da[j]?=some x:=⟨_,List.getElem?_eq_getElem (by rw[hlen];exact hjn)⟩;obtain⟨h1,h2,m1,m2⟩:=HS.out;obtain⟨y,hy,ey,es⟩:=zTa m1 m2 hx;obtain⟨ga,rfl⟩:=zT7 h1.1 (by rw[hlen];omega);obtain⟨gb,rfl⟩:=zT7 h2.1 (by rw[hn.out];omega);obtain⟨a1,a2⟩:=zLk (cap:=ca) (by rw[hlen];have:=h1.1;rw[hlen]at this;exact this) hx;obtain⟨b1,b2⟩:=zLk (cap:=cb) (by rw[hn.out];have:=h2.1;rw[hn.out]at this;exact this) hy;have o1:=h1.2 x (List.mem_of_getElem? hx);have o2:=h2.2 y (List.mem_of_getElem? hy);have la:ga<w4.heap.size:=(World.ownsRow.lt h1.1 ga rfl).2;have lb:gb<w4.heap.size:=(World.ownsRow.lt h2.1 gb rfl).2;have hc1:=zLl a1;have hc2:=zLl b1;rw[ey]at hc2;rw[es]at o2 b2;obtain⟨vy,hvy⟩: ∃vy,y.v=vy:=⟨_,rfl⟩;rw[hvy]at o2 b2;clear h1 h2 m1 m2 a1 b1 hy ey es hvy;go_upto_region 25 with fail
    have cb': ∀{g i:Nat},g<w4.heap.size->wr.drew.cell? ⟨g,i,none⟩=w4.cell? ⟨g,i,none⟩:=fun{g i} hg=>HB.out.cell (p:=⟨g,i,none⟩) hg;have hS:wr.drew.cell? ⟨ga,j*5,none⟩=some (A E (x.k:Int))/\wr.drew.cell? ⟨gb,j*5,none⟩=some (A E (x.k:Int))/\wr.drew.rangeAt ga (j*5+1) (z13 x.s x.v).toList/\wr.drew.rangeAt gb (j*5+1) (z13 x.s vy).toList:=⟨(cb' la).trans hc1,(cb' lb).trans hc2,fun i u hu=>(cb' la).trans (a2 i u hu),fun i u hu=>(cb' lb).trans (b2 i u hu)⟩;refine wp_region_held_drew (S:=fun U=>U.cell? ⟨ga,j*5,none⟩=some (A E (x.k:Int))/\U.cell? ⟨gb,j*5,none⟩=some (A E (x.k:Int))/\U.rangeAt ga (j*5+1) (z13 x.s x.v).toList/\U.rangeAt gb (j*5+1) (z13 x.s vy).toList) kR hS fun _=>?_;change wpAnyH _ _ _ _ _ 25 (Array.replicate 25 false) _ _
    have hB5:Below w4.heap.size w4 wr.drew:=HB.out.drew;clear cb';generalize wr.drew=w5 at*;refine kTk 0 148 (.slice (some ⟨ga,0,none⟩) n ca) ?_;refine kTk 1 149 (A E (j:Int)) ?_;refine kTk 2 150 (pT (some ⟨ga,j*5,none⟩)) ?_;refine kTk 3 151 (pT (some ⟨ga,j*5,none⟩)) ?_;refine tkH (i:=4) (some 152) (A E (x.k:Int)) rfl rfl (fun V hV=>zJo hV.1 rfl rfl) hS ?_;simp only[pS];refine kTk 5 153 (.slice (some ⟨gb,0,none⟩) n cb) ?_;refine kTk 6 154 (A E (j:Int)) ?_;refine kTk 7 155 (pT (some ⟨gb,j*5,none⟩)) ?_;refine kTk 8 156 (pT (some ⟨gb,j*5,none⟩)) ?_;refine tkH (i:=9) (some 157) (A E (x.k:Int)) rfl rfl (fun V hV=>zJo hV.2.1 rfl rfl) hS ?_;simp only[pS];refine tkH (i:=10) (some 158) (.bool false) rfl rfl (fun V hV=>by have z:((x.k:Int) !=(x.k:Int))=false:=kS;go_simp) hS ?_;simp only[pS];refine kTk 11 159 (.bool false) ?_;refine kTk 12 160 (.slice (some ⟨ga,0,none⟩) n ca) ?_;refine kTk 13 161 (A E (j:Int)) ?_;refine kTk 14 162 (pT (some ⟨ga,j*5,none⟩)) ?_;refine kTk 15 163 (pT (some ⟨ga,j*5+1,none⟩)) ?_;refine tkH (i:=16) (some 164) (.agg (z13 x.s x.v)) rfl rfl (fun V hV=>zGk hV.2.2.1 rfl rfl Tryz.underlying93 rfl kR) hS ?_;simp only[pS];refine kTk 17 165 (.slice (some ⟨gb,0,none⟩) n cb) ?_;refine kTk 18 166 (A E (j:Int)) ?_;refine kTk 19 167 (pT (some ⟨gb,j*5,none⟩)) ?_;refine kTk 20 168 (pT (some ⟨gb,j*5+1,none⟩)) ?_;refine tkH (i:=21) (some 169) (.agg (z13 x.s vy)) rfl rfl (fun V hV=>zGk hV.2.2.2 rfl rfl Tryz.underlying96 rfl kR) hS ?_;simp only[pS];refine wpAnyH_ready (rs:=[22]) kR kS ?_;refine z3h (some 170) 25 #[.agg (z13 x.s x.v),.agg (z13 x.s vy)] rfl rfl kI kG ?_ AllReadyH.nil;refine(zFu (z5i o1 fun i cs hi _=>hB5.block i (Array.getElem?_eq_some_iff.1 hi).1) (z5i o2 fun i cs hi _=>hB5.block i (Array.getElem?_eq_some_iff.1 hi).1)).mono ?_;rintro e w6 ⟨rfl,hb6⟩;have hB6:=hB5.trans (hb6.mono hB5.size);have cb': ∀{g i:Nat},g<w4.heap.size->w6.cell? ⟨g,i,none⟩=w4.cell? ⟨g,i,none⟩:=fun{g i} hg=>hB6.cell (p:=⟨g,i,none⟩) hg;have hS6:w6.cell? ⟨ga,j*5,none⟩=some (A E (x.k:Int))/\w6.cell? ⟨gb,j*5,none⟩=some (A E (x.k:Int))/\w6.rangeAt ga (j*5+1) (z13 x.s x.v).toList/\w6.rangeAt gb (j*5+1) (z13 x.s vy).toList:=⟨(cb' la).trans hc1,(cb' lb).trans hc2,fun i u hu=>(cb' la).trans (a2 i u hu),fun i u hu=>(cb' lb).trans (b2 i u hu)⟩;refine⟨_,rfl,hS6,?_⟩;simp only[pS];refine tkH (i:=23) (some 171) (.bool false) rfl rfl (fun V hV=>kG) hS6 ?_;simp only[pS];refine tkH (i:=24) (some 172) (.bool false) rfl rfl (fun V hV=>kG) hS6 ?_;simp only[pS];refine wpAnyH_done kR ?_ _;replace hB6:Hid _:=hB6
    have j2:(j:Int)+1<=60:=kO;clear hS hS6 cb' hB5 hc1 hc2 a2 b2 o1 o2 hb6 HB;go_wp2_with fail;go_roundw
    case rel=>exact⟨j+1,by go_num,kO,hB6⟩
    case measure=>simp[intOf];omega
   ·have j1:decide ((j:Int)<(n:Int))=false:=kZ
    go_wp2_with fail;go_ret;exact⟨rfl,_,r',hQ.out.later HB.out⟩
 ·as_aux_lemma=>
  unfold Wh at hw;go_upto_region 28 with fail
  clear F;have hP:=hP.out.later ((bF w2.heap.size w2).drew);have hS:w2.drew.heap[g]?=some (cT (Ab.cs ⟨what,k,id,rank,.slice la N cap,xs,T⟩) 36 (0,0)):=hS;refine wp_region_held_drew (S:=fun U=>U.heap[g]?=some (cT (Ab.cs ⟨what,k,id,rank,.slice la N cap,xs,T⟩) 36 (0,0))) kR hS fun _=>?_;change wpAnyH _ _ _ _ _ 14 (Array.replicate 14 false) _ _
  generalize w2.drew=w3 at*;refine kTk 0 175 (pT (some ⟨B,k*317,none⟩)) ?_;refine kTk 1 176 (pT (some ⟨g,5,none⟩)) ?_;refine tkH (i:=2) (some 177) (.agg (z06 T)) rfl rfl (fun V hV=>z7w (zDr hV) rfl rfl) hS ?_;simp only[pS];refine kTk 3 178 (pT (some ⟨g,2,none⟩)) ?_;refine tkH (i:=4) (some 179) (A E id) rfl rfl (fun V hV=>by have F:=(Mm.cons (Mm.start V) hV).x;simp only[Mx,Ab.cs]at F;go_simp) hS ?_;simp only[pS];refine kTk 6 181 (pT (some ⟨r.c k,0,none⟩)) ?_;refine kTk 7 182 (pT (some ⟨g,5,none⟩)) ?_;refine tkH (i:=8) (some 183) (.agg (z06 T)) rfl rfl (fun V hV=>z7w (zDr hV) rfl rfl) hS ?_;simp only[pS];refine kTk 9 184 (pT (some ⟨g,2,none⟩)) ?_;refine tkH (i:=10) (some 185) (A E id) rfl rfl (fun V hV=>by have F:=(Mm.cons (Mm.start V) hV).x;simp only[Mx,Ab.cs]at F;go_simp) hS ?_;simp only[pS];refine wpAnyH_ready (rs:=[5]) kR kS ?_;refine z3h (some 180) 26 #[pT (some ⟨B,k*317,none⟩),.agg (z06 T),A E id] rfl rfl kI kG ?_ AllReadyH.nil;refine(zPy hP hk hT.out hid).mono ?_;rintro e w4 ⟨vo,rfl,hO4,hkp,hok⟩;have hS4:=(hkp.tag hP.ok.at_ hS kD).trans hS;refine⟨_,rfl,hS4,?_⟩;simp only[pS];refine wpAnyH_ready (rs:=[11]) kR kS ?_;refine z3h (some 186) 27 #[pT (some ⟨r.c k,0,none⟩),.agg (z06 T),A E id] rfl rfl kI kG ?_ AllReadyH.nil;refine(zTd hP hk hT.out hid hkp hok).mono ?_;rintro e w5 ⟨vo',r',rfl,hO5,hP5,hf5⟩;have hS5:=(hf5.2.2 g _ _ _ hS4 kD kD kD kD).trans hS4;refine⟨_,rfl,hS5,?_⟩;simp only[pS];refine wpAnyH_ready (rs:=[12]) kR kS ?_;refine z3h (some 187) 25 #[.agg (z13 (z05 T id (d.g k).ps sd0).1 vo),.agg (z13 (z05 T id (d.g k).ps sd0).1 vo')] rfl rfl kI kG ?_ AllReadyH.nil;refine(zFu (z5i hO4 fun j cs hj _=>hf5.2.2 j cs _ _ hj kD kD kD kD) hO5).mono ?_;rintro e w6 ⟨rfl,hb6⟩;refine⟨_,rfl,(hb6.block g (Array.getElem?_eq_some_iff.1 hS5).1).trans hS5,?_⟩;simp only[pS];refine tkH (i:=13) (some 6) (.bool true) rfl rfl (fun V hV=>kG) ((hb6.block g (Array.getElem?_eq_some_iff.1 hS5).1).trans hS5) ?_;simp only[pS];refine wpAnyH_done kR ?_ _;go_wp2_with fail;go_ret;exact⟨rfl,_,r',(hP5.later hb6).mono kO⟩
 as_aux_lemma=>
 have t0:=hw 0 kD kD;have t1:=hw 1 kD kD;have t2:=hw 2 kD kD;have t3:=hw 3 kD kD;have t4:=hw 4 kD kD;have t5:=hw 5 kD kD;clear hw;go_wp2_with fail;go_ret;exact⟨rfl,d,r,hP.out.mono kO⟩
end
attribute [local simp] dwS z04
end
section
set_option maxHeartbeats 40000000
set_option maxRecDepth 1000000
attribute [local simp] dwS z04
section
variable {w0 w:World} {base B D k:Nat} {d:Dsk} {r:Rdk} {M:Int}
theorem zWi(h:Hp w0 base B D d r M w)(hM0:0<=M)(hg:z1i w0)(x:Ab)(hx:x.hook<0\/3<=x.hook):Calls tP 7 #[pT (some ⟨B,0,none⟩),pT (some ⟨D,0,none⟩),.agg x.cs] w (ActQ w0 base B D M):=by
 have HC:=zD2 B x.hook hx;have HE:=zO1 B x.hook hx x.T;have HB:Hid (∀W,Below w.heap.size w W->zR 5 #[.iface 30 (A E 2),A E 2] W (.bool true)):=fun W hW=>z3p.bare (n:=0) (.inr (.inl ⟨rfl,rfl,by decide⟩)) (hg.later (h.later hW).bl);obtain⟨what,hook,id,rank,code,xs,T⟩:=x;dsimp only at hx HC HE;unfold z06 at HE;replace h:Hid _:=h
 rcases out_tests hx with k2|⟨k2,k3⟩
 rotate_left;have k3:decide (2<hook)=true:=by simp at k3⊢;omega
 all_goals
  clear hx;go_in
  go_upto_region 1 with fail
  refine gnl (W:=w) kMm ?_;intro w1 hM1;have hb1:=hM1.b;have F:=hM1.x;simp only[Mx,Ab.cs]at F;have hS1:=hM1.row (g:=w.heap.size) (cs:=Ab.cs ⟨what,hook,id,rank,code,xs,T⟩) (t:=36) kMe;clear hM1;go_upto_region 3 with(go_at_call 8;refine cS (HC _) ?_)
  go_wp2_with(first|(go_at_call 5;refine cR (HB.out _ hb1) ?_;intro w2 hb2;replace hS1:=(hb2.block _ (Array.getElem?_eq_some_iff.1 hS1).1).trans hS1;replace hb1:=hb1.trans (hb2.mono hb1.size);clear F;have F:=(Mm.cons (Mm.start w2) hS1).x;simp only[Mx,Ab.cs]at F)|(go_at_call 15;refine cR (HE _) ?_;intro w2 hb2;replace hS1:=(hb2.block _ (Array.getElem?_eq_some_iff.1 hS1).1).trans hS1;replace hb1:=hb1.trans (hb2.mono hb1.size);clear F;have F:=(Mm.cons (Mm.start w2) hS1).x;simp only[Mx,Ab.cs]at F));go_ret;exact⟨rfl,d,r,(h.out.later hb1).mono kO⟩
end
end
section
theorem row_eq(d:Nat)(a b c e:Int)(w:World):(Op.equalIn (d+1+1) 53 (.agg #[A E a,A E b,A E c,A E e]) (.agg #[A E a,A E b,A E c,A E e])).run tP w= .ok true w:=by
 have u2:=Tryz.underlying2;have a2:=Tryz.isAgg2;have z2:=Tryz.sizeOf2;rw[Op.equalIn];simp only[Sem.run_bind,run_underlying Tryz.underlying53,Result.andThen_ok];simp only[Std.Legacy.Range.forIn_eq_forIn_range',Std.Legacy.Range.size,Nat.sub_zero,Nat.add_sub_cancel,Nat.div_one,List.range'_succ,List.range'_zero,List.forIn_cons,List.forIn_nil];go_simp
theorem tab_eq(a:Abs)(w:World):(Op.equalIn 10000 55 (.agg #[A E (a.cel 0),A E (a.cel 1),A E (a.cel 2),A E (a.cel 3),A E (a.cel 4),A E (a.cel 5),A E (a.cel 6),A E (a.cel 7),A E (a.cel 8),A E (a.cel 9),A E (a.cel 10),A E (a.cel 11),A E (a.cel 12),A E (a.cel 13),A E (a.cel 14),A E (a.cel 15)]) (.agg #[A E (a.cel 0),A E (a.cel 1),A E (a.cel 2),A E (a.cel 3),A E (a.cel 4),A E (a.cel 5),A E (a.cel 6),A E (a.cel 7),A E (a.cel 8),A E (a.cel 9),A E (a.cel 10),A E (a.cel 11),A E (a.cel 12),A E (a.cel 13),A E (a.cel 14),A E (a.cel 15)])).run tP w= .ok true w:=by
 have u2:=Tryz.underlying53;have a2:=Tryz.isAgg53;have z2:=Tryz.sizeOf53;have hr:=row_eq 9997;rw[show(10000:Nat)=9999+1 from rfl,Op.equalIn];simp only[Sem.run_bind,run_underlying Tryz.underlying55,Result.andThen_ok];simp only[Std.Legacy.Range.forIn_eq_forIn_range',Std.Legacy.Range.size,Nat.sub_zero,Nat.add_sub_cancel,Nat.div_one,List.range'_succ,List.range'_zero,List.forIn_cons,List.forIn_nil];go_simp
set_option maxHeartbeats 40000000
set_option maxRecDepth 1000000
attribute [local simp] dwS z04
section
variable {w0 w:World} {base B D:Nat} {d:Dsk} {r:Rdk} {M:Int}
structure AbOk (w:World) (x:Ab):Prop where
 code:LsAt w x.code x.xs
 told: ∀i,i<8->In64 (x.T i)
 id:In64 x.id
theorem zZn(h:Hp w0 base B D d r M w)(hM0:0<=M)(hM:M<=800000)(hA:z2z w0)(hg:z1i w0)(x:Ab)(hx:AbOk w0 x):Calls tP 7 #[pT (some ⟨B,0,none⟩),pT (some ⟨D,0,none⟩),.agg x.cs] w (ActQ w0 base B D M):=by
 by_cases hk:x.hook<0\/3<=x.hook
 ·exact zWi h hM0 hg x hk
 obtain⟨h1,h2,h3⟩:=hx;obtain⟨what,hook,id,rank,code,xs,T⟩:=x;obtain⟨k,rfl⟩: ∃k:Nat,hook=(k:Int):=⟨hook.toNat,by dsimp only at hk;omega⟩;have hk3:k<3:=by dsimp only at hk;omega
 obtain⟨la,cap,e, -⟩:=h1.lies;dsimp only at e h1 h2 h3;subst e;exact acts_k h hM0 hM hk3 hA hg id rank la cap xs T h1 h2 h3 what
end
theorem new_ok{w:World}{B:Nat}{mv:Nat->Int}(hD:z0d w B (z48 mv 3))(hm: ∀k,k<3->1<=mv k/\mv k<=1000):DOk w B (z48 mv 3) 0:=by
 have e: ∀k,k<3->((z48 mv 3).g k).may=mv k:=fun k hk=>if_pos hk;refine⟨hD,fun k _ p hp=>absurd hp List.not_mem_nil,fun k _=>Nat.zero_le _,fun k _=>Nat.zero_le _,fun k _ T hT=>absurd hT List.not_mem_nil,fun k hk=>by rw[e k hk];exact(hm k hk).1,fun k hk=>by rw[e k hk];exact(hm k hk).2,fun k _=>?_,fun k _=>?_,fun k _=>Int.le_refl _,fun k _=>Int.le_refl _,Int.le_refl _,Int.le_refl _⟩
 ·show(-1601:Int)<=0;decide
 show(0:Int)<=2000;decide
theorem zV6{w w1 w2:World}{B D b:Nat}{mv:Nat->Int}(hm: ∀k,k<3->1<=mv k/\mv k<=1000)(hb1:Below w.heap.size w w1)(hD:z0d w1 B (z48 mv 3))(hB:w.heap.size<=B)(hb2:Below w1.heap.size w1 w2)(hr:RAt w2 w1.heap.size D (rd0 b fun k=>if k<3 then mv k else 0)):Hp w w1.heap.size B D (z48 mv 3) (rd0 b fun k=>if k<3 then mv k else 0) 0 w2:=
 ⟨(new_ok hD hm).later hb2,hr,⟨rfl,fun k=>⟨rfl,rfl,rfl,rfl,rfl⟩⟩,fun k _=>Int.le_refl _,fun k=>⟨List.Pairwise.nil,List.nodup_nil,fun p hp=>absurd hp List.not_mem_nil⟩,hb1.trans (hb2.mono hb1.size),hB,hb1.size⟩
theorem zN6(may:Nat->Int)(a:Option Addr)(n cap:Nat)(hn:60<n)(w:World):zR 3 #[.agg #[A E (may 0),A E (may 1),A E (may 2)],.slice a n cap] w (.bool true):=by
 have h:decide (60<(n:Int))=true:=kZ;unfold zR;go_in
 go_wp2_with fail;go_ret;exact⟨rfl,kB⟩
theorem zAo(may:Nat->Int)(a:Option Addr)(n cap:Nat)(hn:n<=60)(K:Nat)(hK:K<3)(h0: ∀k,k<K->1<=may k)(h1: ∀k,k<K->may k<=1000)(hbad:may K<1\/1000<may K)(w:World)(hg:z1i w):zR 3 #[.agg #[A E (may 0),A E (may 1),A E (may 2)],.slice a n cap] w (.bool true):=by
 have hd:decide (60<(n:Int))=false:=kZ;have HN:=zV8 may K hK h0 h1 hbad;have HB:Hid (∀W,Below w.heap.size w W->zR 5 #[.iface 30 (A E 2),A E 2] W (.bool true)):=fun W hW=>z3p.bare (n:=0) (.inr (.inl ⟨rfl,rfl,by decide⟩)) (hg.later hW);have t: ∀k,k<K->decide (may k<1)=false/\decide (1000<may k)=false:=fun k hk=>⟨by have:=h0 k hk;simp;omega,by have:=h1 k hk;simp;omega⟩
 have tb:decide (may K<1)=true\/(decide (may K<1)=false/\decide (1000<may K)=true):=by
  by_cases c:may K<1
  ·exact .inl (by simpa using c)
  ·exact .inr ⟨by simpa using c,by simp;omega⟩
 clear hbad;unfold zR;rcases(show K=0\/K=1\/K=2 by omega)with rfl|rfl|rfl<;>rcases tb with b|b
 all_goals
  (try have t0:=t 0 kD)
  (try have t1:=t 1 kD)
  clear t h0 h1;go_in
  go_upto_region 3 with fail
  refine gnl (W:=w) kMm ?_;intro w1 hM;have F:=hM.x;simp only[Mx]at F;go_upto_region 4 with(go_at_call 4;refine cR (HN _) ?_;intro w2 hb2;replace hM:=hM.later hb2;clear F;have F:=hM.x;simp only[Mx]at F)
  go_wp2_with fail;refine wp_loop_rounds 4 ?_
  repeat any_goals(rw[rounds_succ];go_wp2_with(go_at_call 5;refine cR (HB.out _ hM.b) ?_;intro w3 hb3;have hb4:=hM.b.trans (hb3.mono hM.b.size)))
  go_ret;exact⟨rfl,hb4⟩
theorem zKs(K:Nat->Int)(w:World):(Op.equalIn 10000 55 (.agg (z19 K)) (.agg (z19 K))).run tP w= .ok true w:=tab_eq {abs0 with cel:=K} w
theorem zXh{o:Oper}{u:Act}{x y:Operand}(K:Nat->Int)(W:World)(ho:o.op= .binOp .neq 55 x y 55)(hx:u.eval x= .agg (z19 K))(hy:u.eval y= .agg (z19 K)):(execOp u.eval o).run tP W= .ok (.value (.bool false)) W:=by
 have h:=zKs K W;unfold execOp;simp only[ho,hx,hy];go_simp
end
section
set_option maxHeartbeats 40000000
set_option maxRecDepth 1000000
attribute [local simp] dwS z04
def ab0:Ab:=⟨0,0,0,0,.slice none 0 0,[],fun _=>0⟩
structure zZr (w:World) (a:Option Addr) (xs:List Ab):Prop where
 lies:xs.length=0\/ ∃bk off,a=some ⟨bk,off,none⟩/\bk<w.heap.size/\ ∀i,i<xs.length->w.rangeAt bk (off+i*13) (xs.getD i ab0).cs.toList
 ok: ∀x,x∈xs->AbOk w x
theorem ab_one{w:World}{x:Ab}(h:LsAt w x.code x.xs):x.cs.all (·.oneCell')=true:=by
 obtain⟨a,cap,e, -⟩:=h.lies;unfold Ab.cs;rw[e];kernel_rfl
theorem Tryz.infoAb:(Tryz.prog.info? 36).map (·.size)=some 13:=kR
theorem zY2{V:World}{b:Nat}{q:Pg}{i:Int}(h:V.heap[b]?=some (cT (pgCs q) 59 (0,0)))(e:q.id=i):V.cell? ⟨b,0,none⟩=some (A E i):=by rw[<-e];exact(cell_of_row _ _ 0 _ _ _ h).trans rfl
theorem zQ2{W:World}{g:Nat}{cs:Array Value}{t:TypeId}(h:W.heap[g]?=some (cT cs t (0,0))):W.rangeAt g 0 cs.toList:=fun j u hu=>by
 rw[Nat.zero_add,cell_of_row W g j _ _ _ h];simpa using hu
theorem zGj{o:Oper}{u:Act}{x:Operand}{W:World}{b off:Nat}{K:Nat->Int}(hW:W.rangeAt b off (z19 K).toList)(ho:o.op= .load 55 x)(hx:u.eval x= pT (some ⟨b,off,none⟩)):(execOp u.eval o).run tP W= .ok (.value (.agg (z19 K))) W:=by
 have hl:=run_loadVar_mid (P:=tP) W b off 55 (z19 K).toList _ hW Tryz.underlying55 rfl kR;unfold execOp;simp only[ho,hx,Instr.loadAt,Instr.sureAddr,Sem.run_bind,Sem.run_pure,Result.andThen_ok,hl]
theorem Hp.at{w0 w:World}{base B D k j:Nat}{d:Dsk}{r:Rdk}{M:Int}(h:Hp w0 base B D d r M w)(hk:k<3)(hj:j<(d.g k).ps.length): ∃p z,(d.g k).ps[j]?=some p/\(r.zs k)[j]?=some z/\z.2.id=p.id/\z.2.tab=p.tab/\ ∃I,((d.g k).ps.findIdx fun q=>q.id==p.id)=I/\I<(d.g k).ps.length/\(d.g k).ps.getD I pg0=p:=by
 have hl:=h.len k;have e:=congrArg (fun l=>l[j]?) (h.eq.g k).ps;have e:((d.g k).ps.map Pg.bare)[j]?=(((r.zs k).map fun z=>z.2).map Pg.bare)[j]?:=e;have hz:j<(r.zs k).length:=kO;rw[List.getElem?_map,List.getElem?_map,List.getElem?_map,List.getElem?_eq_getElem hj,List.getElem?_eq_getElem hz]at e;have e:((d.g k).ps[j]).bare=((r.zs k)[j]).2.bare:=Option.some.inj e;have hm:(d.g k).ps[j]∈(d.g k).ps:=List.getElem_mem hj;have hI:((d.g k).ps.findIdx fun q=>q.id==((d.g k).ps[j]).id)<(d.g k).ps.length:=List.findIdx_lt_length_of_exists ⟨_,hm,by simp⟩;refine⟨_,_,List.getElem?_eq_getElem hj,List.getElem?_eq_getElem hz,(zBo e).symm,(show((d.g k).ps[j]).bare.tab=((r.zs k)[j]).2.bare.tab by rw[e]).symm,_,rfl,hI,?_⟩;rw[List.getD_eq_getElem?_getD,List.getElem?_eq_getElem hI];have hx:=List.findIdx_getElem (w:=hI);exact z6z (h.st k).nb (List.getElem_mem hI) hm (by simpa using hx)
theorem zN5(may:Nat->Int)(a:Option Addr)(cap:Nat)(xs:List Ab)(w:World)(h60:xs.length<=60)(hm: ∀k,k<3->1<=may k/\may k<=1000)(hX:zZr w a xs)(hA:z2z w)(hg:z1i w):zR 3 #[.agg #[A E (may 0),A E (may 1),A E (may 2)],.slice a xs.length cap] w (.bool true):=by
 obtain⟨n,hn⟩: ∃n,Hid (xs.length=n):=⟨_,rfl⟩;rw[hn.out]at h60⊢;have hd:decide (60<(n:Int))=false:=kZ;have t: ∀k,k<3->decide (may k<1)=false/\decide (1000<may k)=false:=fun k hk=>⟨by have:=hm k hk;simp;omega,by have:=hm k hk;simp;omega⟩;have t0:=t 0 kD;have t1:=t 1 kD;have t2:=t 2 kD;have HN:=zYo may (fun k hk=>(hm k hk).1) fun k hk=>(hm k hk).2;have HR: ∀W:World,Calls tP 6 #[.agg #[A E (may 0),A E (may 1),A E (may 2)]] W _:=fun W=>zXu (fun k=>if k<3 then may k else 0) W;replace hX:Hid _:=hX
 replace hA:Hid _:=hA
 replace hm:Hid _:=hm
 clear t;unfold zR;go_in
 go_upto_region 3 with fail
 refine gnl (W:=w) kMm ?_;intro w1 hM;have F:=hM.x;simp only[Mx]at F;go_upto_region 4 with(go_at_call 4;refine(HN _).mono ?_;rintro e w2 ⟨rfl,hb2,hD2⟩;clear F;have F:=(hM.later hb2).x;simp only[Mx]at F)
 go_wp2_with fail;refine wp_loop_rounds 4 ?_
 repeat any_goals(rw[rounds_succ];go_wp2_with(go_at_call 6;refine(HR _).mono ?_;rintro e w3 ⟨rfl,hr3,hb3⟩))
 have hs1:=hM.b.size;have hP0:=zV6 hm.out (hM.b.trans (hb2.mono hM.b.size)) hD2 kO hb3 hr3;have HP:Hid (∃d r,Hp w w2.heap.size (w1.heap.size+1) (w2.heap.size+1+1+1+1) d r (60*((0:Nat):Int)) w3):=⟨_,_,hP0⟩;clear hP0 hM hb2 hD2 hr3 hb3 HN HR F t0 t1 t2 hs1;generalize w1.heap.size+1=B at*;generalize w2.heap.size+1+1+1+1=D at*;generalize w2.heap.size=base at*;go_loopw [9] (fun iv wr=> ∃i:Nat,iv=A E i/\i<=n/\Hid (∃d r,Hp w base B D d r (60*(i:Int)) wr)) (fun iv _=>n-(intOf iv).toNat)
 case atStart=>exact⟨0,rfl,Nat.zero_le _,HP⟩
 case round=>as_aux_lemma=>
  clear HP;obtain⟨i,rfl,hi,HP⟩:=hrel;obtain⟨d,r,hP⟩:=HP.out;clear HP;have i0:(0:Int)<=(i:Int):=kO
  by_cases hin:i<n
  ·have i1:(i:Int)<(n:Int):=kO
   have i2:(i:Int)+1<=60:=kO;obtain⟨bk,off,rfl,hbk,hrg⟩:=hX.out.lies.resolve_left (by have:=hn.out;omega);have hrg:=hrg i (by rw[hn.out];exact hin);obtain⟨x,hx⟩: ∃x,Hid (xs.getD i ab0=x):=⟨_,rfl⟩;rw[hx.out]at hrg;have hxo:AbOk w x:=hX.out.ok x (by rw[<-hx.out,List.getD_eq_getElem?_getD,List.getElem?_eq_getElem (by rw[hn.out];exact hin)];exact List.getElem_mem _);have hrg:wr.rangeAt bk (off+i*13) x.cs.toList:=fun q u hu=>(hP.bl.cell (p:=⟨bk,off+i*13+q,none⟩) hbk).trans (hrg q u hu);replace hP:Hid _:=hP
   go_upto_region 15 with fail
   go_step;refine kGv ?_;refine kGv ?_;refine kGv ?_;refine wpList_load_mid rfl 36 (.tmp 66) rfl bk (off+i*13) rfl x.cs.toList _ hrg Tryz.underlying36 rfl Tryz.infoAb ?_;rw[Array.toArray_toList];simp only[pS];refine z00 rfl (pT (some ⟨wr.heap.size,0,none⟩)) (wr.alloc (cT ab0.cs 36)) kG ?_;simp only[pS];refine wpList_store_row rfl 36 (.tmp 10) (.tmp 67) rfl wr.heap.size x.cs rfl rfl 36 ab0.cs (heap_alloc_new wr _) kR rfl (ab_one hxo.code) ?_;simp only[pS];have hbx:=setRow_heap (wr.alloc (cT ab0.cs 36)) wr.heap.size ab0.cs x.cs _ _ (heap_alloc_new wr _);have hb5:Below wr.heap.size wr ((wr.alloc (cT ab0.cs 36)).setRow wr.heap.size x.cs):=z14 (kAl _ _) (Nat.le_refl _) _;clear hrg;generalize (wr.alloc (cT ab0.cs 36)).setRow wr.heap.size x.cs=w5 at*;have hP5:=hP.out.later hb5;clear hP hb5;generalize wr.heap.size=g at*;obtain⟨la,lc,hcd, -⟩:=hxo.code.lies;obtain⟨N0,hN0⟩: ∃N0,Hid (x.xs.length=N0):=⟨_,rfl⟩;have hcell:w5.cell? ⟨g,4,none⟩=some (.slice la N0 lc):=by rw[<-hN0.out, <-hcd];exact(cell_of_row _ _ 4 _ _ _ hbx).trans rfl
   rcases dc (60<N0)with⟨c0,c1⟩|⟨c0,c1⟩
   ·have c2:decide (60<(N0:Int))=true:=kZ
    replace hP5:Hid (∃d r,Hp w base B D d r (60*((i+1:Nat):Int)) w5):=⟨d,r,hP5.mono kO⟩
    clear hbx c0 c1;go_wp2_with fail;go_roundw
    case rel=>exact⟨i+1,by go_num,kO,hP5⟩
    case measure=>simp[intOf];omega
   ·have c2:decide (60<(N0:Int))=false:=kZ
    have HAC:=zZn hP5 kO kO hA.out hg x hxo;clear c0 c1 hP5;go_upto_region 17 with fail
    go_step;refine kGv ?_;refine kGv ?_;refine wpList_load_row rfl 36 (.tmp 10) rfl g rfl 36 x.cs (0,0) _ hbx Tryz.underlying36 rfl Tryz.infoAb ?_;simp only[pS];clear hbx hcell;go_upto_region 19 with(go_at_call 7;refine HAC.mono ?_;rintro e w6 ⟨rfl,d',r',hP6⟩)
    replace hP6:Hid (Hp w base B D d' r' (60*(i:Int)+60) w6):=hP6
    clear HAC;go_wp2_with fail;go_loopw [11] (fun kv wr=> ∃z:Int,kv=A E z/\ -1<=z/\z<=4/\Hid (Hp w base B D d' r' (60*(i:Int)+60) wr)) (fun kv _=>(4-intOf kv).toNat)
    case atStart=>exact⟨-1,rfl,by decide,by decide,hP6⟩
    case round=>as_aux_lemma=>
     clear hP6;obtain⟨z,rfl,z0,z1,hP⟩:=hrel
     by_cases ho:z= -1\/z=3
     ·have hO:z<0\/3<=z:=kO
      have HC:=zD2 B z hO;have HW:=zNz B z hO;have HL:=zRa B z hO;clear hO;rcases ho with rfl|rfl
      all_goals
       go_wp2_with(first|(go_at_call 8;refine cS (HC _) ?_)|(go_at_call 9;refine cS (HW _) ?_)|(go_at_call 10;refine cS (HL _) ?_));go_roundw
       case rel=>exact⟨_,by go_num,by decide,by decide,hP⟩
       case measure=>simp[intOf]
     by_cases h4:z=4
     ·subst h4
      have HX:Hid (∃d r,Hp w base B D d r (60*((i+1:Nat):Int)) wr):=⟨d',r',hP.out.mono kO⟩;go_wp2_with fail;go_roundw
      case rel=>exact⟨i+1,by go_num,kO,HX⟩
      case measure=>simp[intOf];omega
     obtain⟨k,rfl⟩: ∃k:Nat,z=(k:Int):=⟨z.toNat,by omega⟩;have hk:k<3:=kO;have k0:(0:Int)<=(k:Int):=kO;have k1:(k:Int)<3:=kO;have k2:(k:Int)<=3:=kO;clear ho h4 z0 z1;obtain⟨sa,sc,el⟩:=z9x (hP.out.ra.ev k hk);obtain⟨m,hmm⟩: ∃m,Hid ((r'.evs k).length=m):=⟨_,rfl⟩;rw[hmm.out]at el;replace el:Hid _:=el
     have HC:=zGv B k hk;have HW:=zR7 B k hk d';have HL:=zV9 B k hk d';rw[(hP.out.eq.g k).evs,show(r'.dsk.g k).evs.length=m from hmm.out]at HW;rw[(hP.out.eq.g k).left,show(r'.dsk.g k).left=r'.left k from rfl]at HL;have q1:((m:Int) !=(m:Int))=false:=by simp
     have q2:(r'.left k !=r'.left k)=false:=by simp
     have q3:decide (0<=(m:Int))=true:=by simp
     go_upto_region 25 with(go_at_call 8;refine cS (HC _) ?_)
     have hPd:=hP.out.later ((bF wr.heap.size wr).drew);have hS:wr.drew.heap[D]?=some (cT (rdCs r') 46 (0,0)):=hPd.ra.box;refine wp_region_held_drew (S:=fun U=>U.heap[D]?=some (cT (rdCs r') 46 (0,0))) kR hS fun _=>?_;change wpAnyH _ _ _ _ _ 15 (Array.replicate 15 false) _ _
     clear hP;generalize wr.drew=w7 at*;refine kTk 0 93 (pT (some ⟨D,0,none⟩)) ?_;refine kTk 1 94 (A E (k:Int)) ?_;refine kTk 2 95 (pT (some ⟨D,0,none⟩)) ?_;refine kTk 3 96 (pT (some ⟨D,3,none⟩)) ?_;refine kTk 4 97 (pT (some ⟨D,3+k,none⟩)) ?_;refine tkH (i:=5) (some 98) (.slice sa m sc) rfl rfl (fun V hV=>by have F:=z7o hV hk;rw[el.out]at F;go_simp) hS ?_;simp only[pS];refine kTk 6 99 (A E (m:Int)) ?_;refine kTk 13 14 (A E (m:Int)) ?_;refine kTk 7 100 (pT (some ⟨D,0,none⟩)) ?_;refine kTk 8 101 (A E (k:Int)) ?_;refine kTk 9 102 (pT (some ⟨D,0,none⟩)) ?_;refine kTk 10 103 (pT (some ⟨D,9,none⟩)) ?_;refine kTk 11 104 (pT (some ⟨D,9+k,none⟩)) ?_;refine tkH (i:=12) (some 105) (A E (r'.left k)) rfl rfl (fun V hV=>by have F:=z7o hV hk;rw[el.out]at F;go_simp) hS ?_;simp only[pS];refine kTk 14 15 (A E (r'.left k)) ?_;refine wpAnyH_done kR ?_ _;clear hS HC;have HPR:=zIe B k hk d' _ w7 hPd.ok;have HWx:=HW w7 hPd.ok.at_;have HLx:=HL w7 hPd.ok.at_;clear HW HL;replace hPd:Hid (Hp w base B D d' r' (60*(i:Int)+60) w7):=hPd
     go_upto_region 30 with(first|(go_at_call 9;refine cS HWx ?_)|(go_at_call 10;refine cS HLx ?_)|(go_at_call 11;refine HPR.mono ?_;rintro e w8 ⟨vi,rfl,hb8,ho8⟩))
     have hP8:=hPd.out.later hb8;clear hPd hb8 HWx HLx HPR q1 q2 q3;obtain⟨N,hN⟩: ∃N,Hid ((d'.g k).ps.length=N):=⟨_,rfl⟩;have h8:N<=8:=by rw[<-hN.out];exact hP8.ok.few k hk
     have hzl:(r'.zs k).length=N:=(hP8.len k).trans hN.out;have hch:=hP8.ra.ch k hk;obtain⟨pi,ci,evi⟩:=z9l (rowShape ho8);obtain⟨pp,cp,evp⟩:=z9l (rowShape hch.row);rw[hN.out]at evi;rw[hzl]at evp;subst evi;have hcb:=hch.box;rw[evp]at hcb;have F:=And.intro (rd_c hP8.ra.box hk) (Mm.cons (Mm.start w8) hcb).x;simp only[Mx]at F;have q4:((N:Int) !=(N:Int))=false:=by simp
     have HQ:Hid (Hp w base B D d' r' (60*(i:Int)+60) w8/\w8.ownsRow w7.heap.size 3 1 (.slice pi N ci) (d'.g k).ps.length ((d'.g k).ps.map fun p=>A E p.id)):=⟨hP8,ho8⟩;clear hP8 ho8 hch hcb;go_wp2_with fail;clear F q4;go_loopw [17] (fun jv wr=> ∃j:Nat,jv=A E j/\j<=N/\Hid (Hp w base B D d' r' (60*(i:Int)+60) wr/\wr.ownsRow w7.heap.size 3 1 (.slice pi N ci) (d'.g k).ps.length ((d'.g k).ps.map fun p=>A E p.id))) (fun jv _=>N-(intOf jv).toNat)
     case atStart=>exact⟨0,rfl,Nat.zero_le _,HQ⟩
     case round=>as_aux_lemma=>
      clear HQ;obtain⟨j,rfl,hj,HQ⟩:=hrel;obtain⟨hPj,hoj⟩:=HQ.out;clear HQ;have j0:(0:Int)<=(j:Int):=kO
      by_cases hjn:j<N
      ·have j1:(j:Int)<(N:Int):=kO
       have j2:(j:Int)+1<=8:=kO;obtain⟨p,z,hp,hz,eid,etb,I,hI1,hI2,hI3⟩:=hPj.at hk (j:=j) (by rw[hN.out];exact hjn);replace eid:Hid _:=eid
       replace etb:Hid _:=etb
       obtain⟨gi,rfl⟩:=zT7 hoj (by rw[hN.out];omega);have hch:=hPj.ra.ch k hk;rw[evp]at hch;obtain⟨gp,rfl⟩:=zT7 hch.row kO;have hzm:z∈r'.zs k:=List.mem_of_getElem? hz
       have c1:wr.cell? ⟨gi,j,none⟩=some (A E p.id):=by
        have h:=World.ownsRow.cells hoj (g:=gi) rfl j (A E p.id) (by rw[List.getElem?_map,hp];rfl);rw[Addr.add_mid,Nat.zero_add]at h;exact h
       have c2:wr.cell? ⟨gp,j,none⟩=some (pT (some ⟨z.1,0,none⟩)):=by
        have h:=World.ownsRow.cells hch.row (g:=gp) rfl j (pT (some ⟨z.1,0,none⟩)) (by rw[ptrs,List.getElem?_map,hz];rfl);rw[Addr.add_mid,Nat.zero_add]at h;exact h
       have l1:=World.block_lt_of_cell? wr _ c1;have l2:=World.block_lt_of_cell? wr _ c2;have HCE:=zVs B k hk d' p.id p wr hPj.ok.at_ (hPj.ok.few k hk) I hI1 hI2 hI3;have HQ:Hid (Hp w base B D d' r' (60*(i:Int)+60) wr/\wr.ownsRow w7.heap.size 3 1 (.slice (some ⟨gi,0,none⟩) N ci) (d'.g k).ps.length ((d'.g k).ps.map fun p=>A E p.id)):=⟨hPj,hoj⟩;clear hp hz hI1 hI2 hI3 hch hPj hoj;go_upto_region 35 with fail
       go_step;refine kGv ?_;refine kGv ?_;refine kGv ?_;refine kGv ?_;refine kGv ?_;refine z0m rfl 12 #[pT (some ⟨B,k*317,none⟩),A E p.id] kG (.tuple #[.agg (z19 p.tab),.nilIface]) (R:=fun w'=>Below wr.heap.size wr w') HCE ?_;intro w9 hb9;simp only[pS];refine kGv ?_;refine kGv ?_;refine kGv ?_;refine z00 rfl (pT (some ⟨w9.heap.size,0,none⟩)) (w9.alloc (cT zero16 55)) kG ?_;simp only[pS];refine wpList_store_row rfl 55 (.tmp 18) (.tmp 155) rfl w9.heap.size (z19 p.tab) rfl rfl 55 zero16 (heap_alloc_new w9 _) kR rfl (z5n _) ?_;simp only[pS];have hb10:Below wr.heap.size wr ((w9.alloc (cT zero16 55)).setRow w9.heap.size (z19 p.tab)):=hb9.trans (z14 ((kAl w9 _).mono hb9.size) hb9.size _);have hg8:=setRow_heap (w9.alloc (cT zero16 55)) w9.heap.size zero16 (z19 p.tab) _ _ (heap_alloc_new w9 _);clear HCE hb9;generalize (w9.alloc (cT zero16 55)).setRow w9.heap.size (z19 p.tab)=w10 at*;generalize w9.heap.size=g8 at*;go_upto_region 36 with fail
       have hP10:=HQ.out.1.later hb10;have hch:=hP10.ra.ch k hk;rw[evp]at hch;have hS:(fun U:World=>U.cell? ⟨gi,j,none⟩=some (A E p.id)/\U.heap[D]?=some (cT (rdCs r') 46 (0,0))/\U.heap[r'.c k]?=some (cT #[.slice (some ⟨gp,0,none⟩) N cp,A E (r'.last k)] 52 (0,0))/\U.cell? ⟨gp,j,none⟩=some (pT (some ⟨z.1,0,none⟩))/\U.heap[z.1]?=some (cT (pgCs z.2) 59 (0,0))/\U.heap[g8]?=some (cT (z19 p.tab) 55 (0,0))) w10.drew:=⟨(hb10.cell (p:=⟨gi,j,none⟩) l1).trans c1,hP10.ra.box,hch.box,(hb10.cell (p:=⟨gp,j,none⟩) l2).trans c2,hch.pgs z hzm,hg8⟩;refine wp_region_held_drew (S:=fun U:World=>U.cell? ⟨gi,j,none⟩=some (A E p.id)/\U.heap[D]?=some (cT (rdCs r') 46 (0,0))/\U.heap[r'.c k]?=some (cT #[.slice (some ⟨gp,0,none⟩) N cp,A E (r'.last k)] 52 (0,0))/\U.cell? ⟨gp,j,none⟩=some (pT (some ⟨z.1,0,none⟩))/\U.heap[z.1]?=some (cT (pgCs z.2) 59 (0,0))/\U.heap[g8]?=some (cT (z19 p.tab) 55 (0,0))) kR hS fun _=>?_;change wpAnyH _ _ _ _ _ 43 (Array.replicate 43 false) _ _
       have HX:Hid (Hp w base B D d' r' (60*(i:Int)+60) w10.drew/\w10.drew.ownsRow w7.heap.size 3 1 (.slice (some ⟨gi,0,none⟩) N ci) (d'.g k).ps.length ((d'.g k).ps.map fun p=>A E p.id)):=⟨hP10.later ((bF w10.heap.size w10).drew),z8m (z8m HQ.out.2 hb10) ((bF w10.heap.size w10).drew)⟩;clear hch hP10 hb10 c1 c2 hg8 l1 l2 HQ;generalize w10.drew=w11 at*;refine kTk 0 157 (.nilIface) ?_;refine kTk 1 158 (.bool false) ?_;refine kTk 2 159 (.bool false) ?_;refine kTk 3 160 (.slice (some ⟨gi,0,none⟩) N ci) ?_;refine kTk 4 161 (A E (j:Int)) ?_;refine kTk 5 162 (pT (some ⟨gi,j,none⟩)) ?_;refine tkH (i:=6) (some 163) (A E p.id) rfl rfl (fun V hV=>zJo hV.1 rfl rfl) hS ?_;simp only[pS];refine kTk 7 164 (pT (some ⟨D,0,none⟩)) ?_;refine kTk 8 165 (A E (k:Int)) ?_;refine kTk 9 166 (pT (some ⟨D,0,none⟩)) ?_;refine kTk 10 167 (pT (some ⟨D,0,none⟩)) ?_;refine kTk 11 168 (pT (some ⟨D,k,none⟩)) ?_;refine tkH (i:=12) (some 169) (pT (some ⟨r'.c k,0,none⟩)) rfl rfl (fun V hV=>by have F:=rd_c hV.2.1 hk;go_simp) hS ?_;simp only[pS];refine kTk 13 170 (pT (some ⟨r'.c k,0,none⟩)) ?_;refine kTk 14 171 (pT (some ⟨r'.c k,0,none⟩)) ?_;refine tkH (i:=15) (some 172) (.slice (some ⟨gp,0,none⟩) N cp) rfl rfl (fun V hV=>by have F:=(Mm.cons (Mm.start V) hV.2.2.1).x;simp only[Mx]at F;go_simp) hS ?_;simp only[pS];refine kTk 16 173 (A E (j:Int)) ?_;refine kTk 17 174 (pT (some ⟨gp,j,none⟩)) ?_;refine tkH (i:=18) (some 175) (pT (some ⟨z.1,0,none⟩)) rfl rfl (fun V hV=>by have F:=hV.2.2.2.1;go_simp) hS ?_;simp only[pS];refine kTk 19 176 (pT (some ⟨z.1,0,none⟩)) ?_;refine kTk 20 177 (pT (some ⟨z.1,0,none⟩)) ?_;refine tkH (i:=21) (some 178) (A E p.id) rfl rfl (fun V hV=>by have F:=zY2 hV.2.2.2.2.1 eid.out;go_simp) hS ?_;simp only[pS];refine tkH (i:=22) (some 179) (.bool false) rfl rfl (fun V hV=>by have zz:(p.id !=p.id)=false:=kS;go_simp) hS ?_;simp only[pS];refine kTk 23 180 (.bool false) ?_;refine kTk 24 181 (.bool false) ?_;refine tkH (i:=25) (some 182) (.agg (z19 p.tab)) rfl rfl (fun V hV=>zGj (zQ2 hV.2.2.2.2.2) rfl rfl) hS ?_;simp only[pS];refine kTk 26 183 (pT (some ⟨D,0,none⟩)) ?_;refine kTk 27 184 (A E (k:Int)) ?_;refine kTk 28 185 (pT (some ⟨D,0,none⟩)) ?_;refine kTk 29 186 (pT (some ⟨D,0,none⟩)) ?_;refine kTk 30 187 (pT (some ⟨D,k,none⟩)) ?_;refine tkH (i:=31) (some 188) (pT (some ⟨r'.c k,0,none⟩)) rfl rfl (fun V hV=>by have F:=rd_c hV.2.1 hk;go_simp) hS ?_;simp only[pS];refine kTk 32 189 (pT (some ⟨r'.c k,0,none⟩)) ?_;refine kTk 33 190 (pT (some ⟨r'.c k,0,none⟩)) ?_;refine tkH (i:=34) (some 191) (.slice (some ⟨gp,0,none⟩) N cp) rfl rfl (fun V hV=>by have F:=(Mm.cons (Mm.start V) hV.2.2.1).x;simp only[Mx]at F;go_simp) hS ?_;simp only[pS];refine kTk 35 192 (A E (j:Int)) ?_;refine kTk 36 193 (pT (some ⟨gp,j,none⟩)) ?_;refine tkH (i:=37) (some 194) (pT (some ⟨z.1,0,none⟩)) rfl rfl (fun V hV=>by have F:=hV.2.2.2.1;go_simp) hS ?_;simp only[pS];refine kTk 38 195 (pT (some ⟨z.1,0,none⟩)) ?_;refine kTk 39 196 (pT (some ⟨z.1,3,none⟩)) ?_;refine tkH (i:=40) (some 197) (.agg (z19 p.tab)) rfl rfl (fun V hV=>zGj (by have h:=zL1 hV.2.2.2.2.1;rw[etb.out]at h;exact h) rfl rfl) hS ?_;simp only[pS];refine tkH (i:=41) (some 198) (.bool false) rfl rfl (fun V hV=>zXh p.tab V rfl rfl rfl) hS ?_;simp only[pS];refine kTk 42 199 (.bool false) ?_;refine wpAnyH_done kR ?_ _;clear hS;go_wp2_with fail;go_roundw
       case rel=>exact⟨j+1,by go_num,kO,HX⟩
       case measure=>simp[intOf];omega
      ·obtain rfl:j=N:=by omega
       have j1:decide ((j:Int)<(j:Int))=false:=by simp
       have HCN:=zOt B k hk d' 0 wr hPj.ok.at_ (hPj.ok.few k hk) (List.findIdx_eq_length.2 fun q hq=>by have:=((hPj.st k).id q hq).1;simp;omega);replace hPj:Hid (Hp w base B D d' r' (60*(i:Int)+60) wr):=hPj
       clear hoj;go_upto_region 38 with fail
       go_step;refine kGv ?_;refine z0m rfl 12 #[pT (some ⟨B,k*317,none⟩),A E 0] kG (.tuple #[.agg zero16,.iface 30 (A E 7)]) (R:=fun w'=>Below wr.heap.size wr w') HCN ?_;intro w9 hb9;simp only[pS];refine kGv ?_;refine kGv ?_;refine kGv ?_;refine z00 rfl (pT (some ⟨w9.heap.size,0,none⟩)) (w9.alloc (cT zero16 55)) kG ?_;simp only[pS];refine wpList_store_row rfl 55 (.tmp 20) (.tmp 203) rfl w9.heap.size zero16 rfl rfl 55 zero16 (heap_alloc_new w9 _) kR rfl kR ?_;simp only[pS];have hb10:Below wr.heap.size wr ((w9.alloc (cT zero16 55)).setRow w9.heap.size zero16):=hb9.trans (z14 ((kAl w9 _).mono hb9.size) hb9.size _);have hg8:=setRow_heap (w9.alloc (cT zero16 55)) w9.heap.size zero16 zero16 _ _ (heap_alloc_new w9 _);clear HCN hb9;generalize (w9.alloc (cT zero16 55)).setRow w9.heap.size zero16=w10 at*;generalize w9.heap.size=g8 at*;have hP10:=hPj.out.later hb10;have HB:zR 5 #[.iface 30 (A E 7),A E 7] w10 (.bool true):=z3p.bare (n:=0) (.inr (.inl ⟨rfl,rfl,by decide⟩)) (hg.later hP10.bl);replace hP10:Hid (Hp w base B D d' r' (60*(i:Int)+60) w10):=hP10
       clear hPj hb10;go_wp2_with(go_at_call 5;refine cR HB ?_;intro w12 hb12;have hg9:=(hb12.block g8 (Array.getElem?_eq_some_iff.1 hg8).1).trans hg8;have F:=(Mm.cons (Mm.start w12) hg9).x;simp only[Mx,zero16,z19]at F;have he:=zKs (fun _=>0) w12;simp only[z19]at he);have HX:Hid (Hp w base B D d' r' (60*(i:Int)+60) w12):=hP10.out.later hb12;go_roundw
       case rel=>exact⟨_,by go_num,by omega,by omega,HX⟩
       case measure=>simp[intOf];omega
  ·obtain rfl:i=n:=by omega
   have i1:decide ((i:Int)<(i:Int))=false:=by simp
   have hbl:=hP.bl;clear hP;go_wp2_with fail;go_ret;exact⟨rfl,hbl⟩
end
section
def zLy(w:World)(a:Option Addr)(len:Nat):Prop:=
 len=0\/ ∃(bk off:Nat)(C D S O N:Nat->Int)(R:Nat->Bool),a=some ⟨bk,off,none⟩/\bk<w.heap.size/\z1g w bk off len C D S R O N/\(∀i,i<len->In64 (O i))/\ ∀i,i<len->In64 (N i)
theorem z6f{n:Int}(h:(Lit.int .i64 n).wf=true):In64 n:=by
 have h':(decide (-9223372036854775808<=n)&&decide (n<=9223372036854775807))=true:=h;simp at h';exact h'
theorem z7r{w:World}{base:Nat}{a:Addr}{n:Nat}{cs:List Value}(h:w.cells? base a n=some cs)(i:Nat)(hi:i<n):w.cell? (a.add i)=cs[i]?:=by
 unfold World.cells? at h;split at h
 ·exact mapM_some_get h i i (by simp[hi])
 cases h
theorem six{l:List Value}(h:l.length=6): ∃a b c d e f,l=[a,b,c,d,e,f]:=by
 match l,h with
 |[a,b,c,d,e,f],_=>exact⟨a,b,c,d,e,f,rfl⟩
section
variable {H:Type} {enc:TypeId×Value->H} {w:World}
theorem zPt{n:Nat}{cs:List Value}{x:DataW H×List MemPlace}(h:DataW.trod enc tP w 0 (fun _=>true) true n 121 cs=some x):
  ∃y:Int×Int×Int×Bool×Int×Int,cs=[A E y.1,A E y.2.1,A E y.2.2.1,.bool y.2.2.2.1,A E y.2.2.2.2.1,A E y.2.2.2.2.2]/\In64 y.2.2.2.2.1/\In64 y.2.2.2.2.2:=by
 obtain⟨xs,m,_,_,hl,hx,hf⟩:=DataW.trod_struct Tryz.underlying121 h;have hl6:cs.length=6:=by rw[hl];kernel_rfl
 have hx6:xs.length=6:=hx;obtain⟨a,b,c,d,e,f,rfl⟩:=six hl6;have k3:Tryz.prog.cellsOf 3=1:=by kernel_rfl
 have k2:Tryz.prog.cellsOf 2=1:=by kernel_rfl
 have k4:Tryz.prog.cellsOf 4=1:=by kernel_rfl
 have at_: ∀i,i<6-> ∃y,xs[i]?=some y:=fun i hi=>⟨xs[i]'kO,List.getElem?_eq_getElem _⟩;obtain⟨y0,e0⟩:=at_ 0 kD;obtain⟨y1,e1⟩:=at_ 1 kD;obtain⟨y2,e2⟩:=at_ 2 kD;obtain⟨y3,e3⟩:=at_ 3 kD;obtain⟨y4,e4⟩:=at_ 4 kD;obtain⟨y5,e5⟩:=at_ 5 kD;have f0:DataW.trod enc tP w 0 (fun _=>true) true m 3 (([a,b,c,d,e,f].drop 0).take (Tryz.prog.cellsOf 3))=some y0:=(hf 0 _ rfl).trans e0;have f1:DataW.trod enc tP w 0 (fun _=>true) true m 3 (([a,b,c,d,e,f].drop 1).take (Tryz.prog.cellsOf 3))=some y1:=(hf 1 _ rfl).trans e1;have f2:DataW.trod enc tP w 0 (fun _=>true) true m 3 (([a,b,c,d,e,f].drop 2).take (Tryz.prog.cellsOf 3))=some y2:=(hf 2 _ rfl).trans e2;have f3:DataW.trod enc tP w 0 (fun _=>true) true m 4 (([a,b,c,d,e,f].drop 3).take (Tryz.prog.cellsOf 4))=some y3:=(hf 3 _ rfl).trans e3;have f4:DataW.trod enc tP w 0 (fun _=>true) true m 3 (([a,b,c,d,e,f].drop 4).take (Tryz.prog.cellsOf 3))=some y4:=(hf 4 _ rfl).trans e4;have f5:DataW.trod enc tP w 0 (fun _=>true) true m 2 (([a,b,c,d,e,f].drop 5).take (Tryz.prog.cellsOf 2))=some y5:=(hf 5 _ rfl).trans e5;rw[k3]at f0 f1 f2 f4;rw[k4]at f3;rw[k2]at f5;obtain⟨n0,g0,_,_⟩:=DataW.trod_int Tryz.underlying3 f0;obtain⟨n1,g1,_,_⟩:=DataW.trod_int Tryz.underlying3 f1;obtain⟨n2,g2,_,_⟩:=DataW.trod_int Tryz.underlying3 f2;obtain⟨n3,g3,_⟩:=DataW.trod_bool Tryz.underlying4 f3;obtain⟨n4,g4,_,w4⟩:=DataW.trod_int Tryz.underlying3 f4;obtain⟨n5,g5,_,w5⟩:=DataW.trod_int Tryz.underlying2 f5;simp at g0 g1 g2 g3 g4 g5;exact⟨(n0,n1,n2,n3,n4,n5),by rw[g0,g1,g2,g3,g4,g5],z6f w4,z6f w5⟩
theorem zMr{a:Option Addr}{len cap:Nat}{d:DataW H}{ps:List MemPlace}(h:DataW.Trod enc tP w 0 (fun _=>true) true 33 (.slice a len cap) d ps):zLy w a len:=by
 obtain⟨fuel,hf⟩:=h;rcases Deep.open_slice Tryz.underlying33 hf with⟨hcs,_⟩|⟨x,l,c,m,n,Da,Pl,hcs,_,hl,hm,hmm,_,hx⟩
 ·simp[Value.cells]at hcs
  exact Or.inl hcs.2.1
 simp[Value.cells]at hcs;obtain⟨rfl,rfl,rfl⟩:=hcs
 by_cases h0:len=0
 ·exact Or.inl h0
 have hc6:Tryz.prog.cellsOf 121=6:=by kernel_rfl
 have all: ∀i,∃y:Int×Int×Int×Bool×Int×Int,i<len->(∀j,j<6->w.cell? ((x.add (i*6)).add j)=[Value.int .i64 y.1,A E y.2.1,A E y.2.2.1,.bool y.2.2.2.1,A E y.2.2.2.2.1,A E y.2.2.2.2.2][j]?)/\In64 y.2.2.2.2.1/\In64 y.2.2.2.2.2:=by
  intro i
  by_cases hi:i<len
  ·have him:i<m:=by rw[hmm];simp;omega
   obtain⟨cs,hcc,ht⟩:=hx i him;rw[hc6]at hcc;obtain⟨y,hy,i4,i5⟩:=zPt ht;refine⟨y,fun _=>⟨fun j hj=>?_,i4,i5⟩⟩;rw[<-hy];exact z7r hcc j hj
  ·exact⟨(0,0,0,false,0,0),fun h=>absurd h hi⟩
 obtain⟨f,hf'⟩:=Classical.axiomOfChoice all;obtain⟨b,off,spot⟩:=x;have hc0:=(hf' 0 kO).1 0 kD;have hspot:spot=none:=by simpa[Addr.add]using World.cell?_spot hc0
 subst hspot
 have hb:b<w.heap.size:=by
  rcases Nat.lt_or_ge b w.heap.size with g|g
  ·exact g
  ·simp[World.cell?,Addr.add,Array.getElem?_eq_none g]at hc0
 refine Or.inr ⟨b,off,fun i=>(f i).1,fun i=>(f i).2.1,fun i=>(f i).2.2.1,fun i=>(f i).2.2.2.2.1,fun i=>(f i).2.2.2.2.2,fun i=>(f i).2.2.2.1,rfl,hb,fun i hi=>?_,fun i hi=>(hf' i hi).2.1,fun i hi=>(hf' i hi).2.2⟩
 have g: ∀j,j<6->w.cell? ⟨b,off+i*6+j,none⟩=[Value.int .i64 (f i).1,A E (f i).2.1,A E (f i).2.2.1,.bool (f i).2.2.2.1,A E (f i).2.2.2.2.1,A E (f i).2.2.2.2.2][j]?:=fun j hj=>by
  rw[<-Go.WideShapes.add_plain, <-Go.WideShapes.add_plain];exact(hf' i hi).1 j hj
 exact⟨g 0 kD,g 1 kD,g 2 kD,g 3 kD,g 4 kD,g 5 kD⟩
theorem zNt{a:Option Addr}{len cap:Nat}(h:zLy w a len): ∃xs,LsAt w (.slice a len cap) xs:=by
 rcases h with h|⟨bk,off,C,D,S,O,N,R,e,hb,hst,hO,hN⟩
 ·exact⟨[],⟨a,cap,by rw[h];rfl,Or.inl rfl⟩,fun j hj=>absurd hj (Nat.not_lt_zero _)⟩
 have hl:((List.range len).map fun j=>(⟨C j,D j,S j,R j,O j,N j⟩:St)).length=len:=by simp
 have hn: ∀j,j<len->nth ((List.range len).map fun j=>(⟨C j,D j,S j,R j,O j,N j⟩:St)) j=⟨C j,D j,S j,R j,O j,N j⟩:=fun j hj=>by
  unfold nth;rw[List.getElem?_map,List.getElem?_range hj];rfl
 refine⟨(List.range len).map fun j=>⟨C j,D j,S j,R j,O j,N j⟩,⟨a,cap,by rw[hl],Or.inr ⟨bk,off,e,hb,?_⟩⟩,fun j hj=>?_⟩
 ·rw[hl]
  intro i hi;have:=hst i hi;dsimp only;rw[hn i hi];exact this
 rw[hl]at hj;rw[hn j hj];exact⟨hO j hj,hN j hj⟩
theorem zO9{n:Nat}{cs:List Value}{x:DataW H×List MemPlace}(hl:cs.length=8)(h:DataW.trod enc tP w 0 (fun _=>true) true n 34 cs=some x): ∃T:Nat->Int,cs=[A E (T 0),A E (T 1),A E (T 2),A E (T 3),A E (T 4),A E (T 5),A E (T 6),A E (T 7)]/\ ∀i,i<8->In64 (T i):=by
 obtain⟨xs,m,_,_,_,hx,hi⟩:=DataW.trod_array Tryz.underlying34 h;have k2:Tryz.prog.cellsOf 2=1:=by kernel_rfl
 have all: ∀i,∃n:Int,i<8->cs[i]?=some (A E n)/\In64 n:=by
  intro i
  by_cases h8:i<8
  ·have e:=hi i h8
   rw[k2,Nat.mul_one,List.getElem?_eq_getElem kO]at e;obtain⟨n,g,_,wf⟩:=DataW.trod_int Tryz.underlying2 e
   have g1:cs[i]?=some (A E n):=by
    have e1:((cs.drop i).take 1)[0]?=some (A E n):=by rw[g];rfl
    rw[List.getElem?_take,if_pos kD,List.getElem?_drop]at e1;exact e1
   exact⟨n,fun _=>⟨g1,z6f wf⟩⟩
  ·exact⟨0,fun h=>absurd h h8⟩
 obtain⟨T,hT⟩:=Classical.axiomOfChoice all;refine⟨T,?_,fun i h8=>(hT i h8).2⟩;apply List.ext_getElem?;intro i
 by_cases h8:i<8
 ·rw[(hT i h8).1]
  rcases(show i=0\/i=1\/i=2\/i=3\/i=4\/i=5\/i=6\/i=7 by omega)with rfl|rfl|rfl|rfl|rfl|rfl|rfl|rfl<;>rfl
 rw[List.getElem?_eq_none kO,List.getElem?_eq_none kZ]
theorem zWj{n:Nat}{cs:List Value}{x:DataW H×List MemPlace}(h:DataW.trod enc tP w 0 (fun _=>true) true n 36 cs=some x):
  ∃y:Ab,cs=y.cs.toList/\AbOk w y:=by
 obtain⟨xs,m,_,_,hl,hx,hf⟩:=DataW.trod_struct Tryz.underlying36 h;have hl13:cs.length=13:=by rw[hl];kernel_rfl
 have hx6:xs.length=6:=hx;have k3:Tryz.prog.cellsOf 3=1:=by kernel_rfl
 have k4:Tryz.prog.cellsOf 33=1:=by kernel_rfl
 have k8:Tryz.prog.cellsOf 34=8:=by kernel_rfl
 have at_: ∀i,i<6-> ∃y,xs[i]?=some y:=fun i hi=>⟨xs[i]'kO,List.getElem?_eq_getElem _⟩;obtain⟨y0,e0⟩:=at_ 0 kD;obtain⟨y1,e1⟩:=at_ 1 kD;obtain⟨y2,e2⟩:=at_ 2 kD;obtain⟨y3,e3⟩:=at_ 3 kD;obtain⟨y4,e4⟩:=at_ 4 kD;obtain⟨y5,e5⟩:=at_ 5 kD;have f0:DataW.trod enc tP w 0 (fun _=>true) true m 3 ((cs.drop 0).take (Tryz.prog.cellsOf 3))=some y0:=(hf 0 _ rfl).trans e0;have f1:DataW.trod enc tP w 0 (fun _=>true) true m 3 ((cs.drop 1).take (Tryz.prog.cellsOf 3))=some y1:=(hf 1 _ rfl).trans e1;have f2:DataW.trod enc tP w 0 (fun _=>true) true m 3 ((cs.drop 2).take (Tryz.prog.cellsOf 3))=some y2:=(hf 2 _ rfl).trans e2;have f3:DataW.trod enc tP w 0 (fun _=>true) true m 3 ((cs.drop 3).take (Tryz.prog.cellsOf 3))=some y3:=(hf 3 _ rfl).trans e3;have f4:DataW.trod enc tP w 0 (fun _=>true) true m 33 ((cs.drop 4).take (Tryz.prog.cellsOf 33))=some y4:=(hf 4 _ rfl).trans e4;have f5:DataW.trod enc tP w 0 (fun _=>true) true m 34 ((cs.drop 5).take (Tryz.prog.cellsOf 34))=some y5:=(hf 5 _ rfl).trans e5;rw[k3]at f0 f1 f2 f3;rw[k4]at f4;rw[k8]at f5;obtain⟨n0,g0,_,_⟩:=DataW.trod_int Tryz.underlying3 f0;obtain⟨n1,g1,_,_⟩:=DataW.trod_int Tryz.underlying3 f1;obtain⟨n2,g2,_,w2⟩:=DataW.trod_int Tryz.underlying3 f2;obtain⟨n3,g3,_,_⟩:=DataW.trod_int Tryz.underlying3 f3;obtain⟨T,g5,hT⟩:=zO9 (by rw[List.length_take,List.length_drop,hl13];rfl) f5
 obtain⟨p,len,cap,g4⟩: ∃p len cap,(cs.drop 4).take 1=[.slice p len cap]:=by
  rcases Deep.open_slice Tryz.underlying33 f4 with⟨hcs,_⟩|⟨x,l,c,m,n,Da,Pl,hcs,_⟩
  ·exact⟨_,_,_,hcs⟩
  ·exact⟨_,_,_,hcs⟩
 rw[g4]at f4;obtain⟨zs,hz⟩:=zNt (cap:=cap) (zMr (cap:=cap) (d:=y4.1) (ps:=y4.2) ⟨m,f4⟩);refine⟨⟨n0,n1,n2,n3,.slice p len cap,zs,T⟩,?_,hz,hT,z6f w2⟩
 have e:cs=(cs.drop 0).take 1++((cs.drop 1).take 1++((cs.drop 2).take 1++((cs.drop 3).take 1++((cs.drop 4).take 1++(cs.drop 5).take 8)))):=by
  have t: ∀(i k:Nat),(cs.drop i).take k++cs.drop (i+k)=cs.drop i:=fun i k=>by rw[<-List.drop_drop];exact List.take_append_drop _ _
  rw[show(cs.drop 5).take 8=cs.drop 5 from List.take_of_length_le (by rw[List.length_drop,hl13];decide),t 4 1,t 3 1,t 2 1,t 1 1,t 0 1];rfl
 rw[g0,g1,g2,g3,g4,g5]at e;exact e
theorem zSf{a:Option Addr}{len cap:Nat}{d:DataW H}{ps:List MemPlace}(h:DataW.Trod enc tP w 0 (fun _=>true) true 23 (.slice a len cap) d ps): ∃xs,xs.length=len/\zZr w a xs:=by
 obtain⟨fuel,hf⟩:=h;rcases Deep.open_slice Tryz.underlying23 hf with⟨hcs,_⟩|⟨x,l,c,m,n,Da,Pl,hcs,_,hl,hm,hmm,_,hx⟩
 ·simp[Value.cells]at hcs
  exact⟨[],hcs.2.1.symm,Or.inl rfl,fun x hx=>absurd hx List.not_mem_nil⟩
 simp[Value.cells]at hcs;obtain⟨rfl,rfl,rfl⟩:=hcs
 by_cases h0:len=0
 ·exact⟨[],h0.symm,Or.inl rfl,fun x hx=>absurd hx List.not_mem_nil⟩
 have hc13:Tryz.prog.cellsOf 36=13:=by kernel_rfl
 have all: ∀i,∃y:Ab,i<len->(∀j,j<13->w.cell? ((x.add (i*13)).add j)=y.cs.toList[j]?)/\AbOk w y:=by
  intro i
  by_cases hi:i<len
  ·have him:i<m:=by rw[hmm];simp;omega
   obtain⟨cs,hcc,ht⟩:=hx i him;rw[hc13]at hcc;obtain⟨y,hy,h1⟩:=zWj ht;refine⟨y,fun _=>⟨fun j hj=>?_,h1⟩⟩;rw[<-hy];exact z7r hcc j hj
  ·exact⟨ab0,fun h=>absurd h hi⟩
 obtain⟨f,hf'⟩:=Classical.axiomOfChoice all;obtain⟨b,off,spot⟩:=x;have hc0:=(hf' 0 kO).1 0 kD;have hspot:spot=none:=by simpa[Addr.add,Ab.cs]using World.cell?_spot hc0
 subst hspot
 have hb:b<w.heap.size:=by
  rcases Nat.lt_or_ge b w.heap.size with g|g
  ·exact g
  ·simp[World.cell?,Addr.add,Array.getElem?_eq_none g,Ab.cs]at hc0
 have hlen:((List.range len).map f).length=len:=by simp
 refine⟨(List.range len).map f,hlen,Or.inr ⟨b,off,rfl,hb,fun i hi=>?_⟩,fun x hx=>?_⟩
 ·rw[hlen]at hi
  have e:((List.range len).map f).getD i ab0=f i:=by rw[List.getD_eq_getElem?_getD,List.getElem?_map,List.getElem?_range hi];rfl
  rw[e];intro j v hv;have hj:j<13:=by have:=(List.getElem?_eq_some_iff.1 hv).1;simpa[Ab.cs]using this
  have:=(hf' i hi).1 j hj;rw[Go.WideShapes.add_plain,Go.WideShapes.add_plain,hv]at this;exact this
 obtain⟨i,hi,rfl⟩:=List.mem_map.1 hx;exact(hf' i (List.mem_range.1 hi)).2
theorem zNe{P:Program}{w:World}{r:Reach}{b0 n:Nat}{t e:TypeId}{v:Value}(ht:P.underlying t=some (.array n e))(h:Value.okWide P w r b0 t v): ∃cs,v= .agg cs/\cs.size=P.cellsOf t:=by
 unfold Value.okWide at h;rw[ht]at h;obtain⟨cs,h1,h2,_⟩:=h;exact⟨cs,h1,h2⟩
theorem zT1{l:List Value}{i:Nat}{x:Value}(h:(l.drop i).take 1=[x]):l[i]?=some x:=by
 have e:((l.drop i).take 1)[0]?=some x:=by rw[h];rfl
 rw[List.getElem?_take,if_pos kD,List.getElem?_drop]at e;exact e
theorem zMl{r:Reach}{b0:Nat}{v:Value}{d:DataW H}{ps:List MemPlace}(hv:Value.okWide tP w r b0 22 v)(h:DataW.Trod enc tP w 0 (fun _=>true) true 22 v d ps): ∃m:Nat->Int,v= .agg #[A E (m 0),A E (m 1),A E (m 2)]:=by
 obtain⟨cs,hv',hs⟩:=zNe Tryz.underlying22 hv;subst hv';have hs3:cs.size=3:=hs.trans kR;obtain⟨fuel,hf⟩:=h;obtain⟨xs,m,_,_,_,hx,hi⟩:=DataW.trod_array Tryz.underlying22 hf;have k2:Tryz.prog.cellsOf 3=1:=by kernel_rfl
 have all: ∀i,∃n:Int,i<3->cs.toList[i]?=some (A E n):=by
  intro i
  by_cases h3:i<3
  ·have e:=hi i h3
   rw[k2,Nat.mul_one,List.getElem?_eq_getElem kO]at e;obtain⟨n,g,_,wf⟩:=DataW.trod_int Tryz.underlying3 e;exact⟨n,fun _=>zT1 g⟩
  ·exact⟨0,fun h=>absurd h h3⟩
 obtain⟨T,hT⟩:=Classical.axiomOfChoice all;refine⟨T,?_⟩;congr 1;apply Array.toList_inj.1;apply List.ext_getElem?;intro i
 by_cases h3:i<3
 ·rw[hT i h3]
  rcases(show i=0\/i=1\/i=2 by omega)with rfl|rfl|rfl<;>rfl
 rw[List.getElem?_eq_none (by rw[Array.length_toList];omega),List.getElem?_eq_none (by show 3<=i;omega)]
end
end
end Go.Proofs.YtabjjgkmegcacaaGreatDoor
