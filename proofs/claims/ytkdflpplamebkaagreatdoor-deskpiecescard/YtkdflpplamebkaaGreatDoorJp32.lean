/-
A part of the proof of DeskPieces; its card says what is proved.
-/
import Derived.Test.YtkdflpplamebkaaGreatDoorJp31
set_option maxHeartbeats 40000000
open Go.Value renaming int → A
open Go.IntKind renaming i64 → E
open Go.RowKit.Below renaming alloc → bA, setCell → bS, drew → bD, refl → bF
set_option maxRecDepth 1000000
set_option linter.defProp false
set_option linter.unusedVariables false
set_option linter.unusedSimpArgs false
open Go.Ending renaming returned → rT
open Go.Value renaming pointer → pT
open Go.Obj renaming cells → cT
open Go.Proofs.Tryz renaming prog → tP
namespace Go.Proofs.YtkdflpplamebkaaGreatDoor
open Go.ChangeShapes Go.WideShapes Go.ChangeAt Go.RowKit
attribute [local simp] z05 z0a z06
structure Dn where
 k:Nat
 s:Sd
 v:Value
def Dn.cells(x:Dn):List Value:=[A E (x.k:Int),A E x.s.bf,A E x.s.num,x.v,A E x.s.steps]
def z6c(ds:List Dn):List Value:=(ds.map Dn.cells).flatten
def DnAt(w:World)(base:Nat)(v:Value)(ds:List Dn):Prop:=w.ownsRow base 101 5 v ds.length (z6c ds)/\ ∀x,x∈ds->w.ownsRow base 2 1 x.v x.s.out.length (x.s.out.map (Value.int .i64))
theorem DnAt.kept{w w':World}{base B:Nat}{v:Value}{ds:List Dn}(h:DnAt w base v ds)(hk:Kept B w w')(hB:B<base):DnAt w' base v ds:=
 ⟨World.ownsRow.kept h.1 hk (Or.inr fun e=>by have:=(World.ownsRow.lt h.1 _ e).1;omega),fun x hx=>World.ownsRow.kept (h.2 x hx) hk (Or.inr fun e=>by have:=(World.ownsRow.lt (h.2 x hx) _ e).1;omega)⟩
theorem zHe{T:Nat->Int}{time:Int}: ∀(ps:List Pg)(s:Sd)(p:Pg),p∈(z08 T time ps s).2-> ∃q,q∈ps/\p.sl=q.sl
 |[],s,p,h=>absurd h (by simp[z08])
 |q::ps,s,p,h=>by
  rw[z08]at h
  by_cases c:(q.run T time).num=0
  ·rw[if_pos c]at h
   rcases List.mem_cons.1 h with rfl|h
   ·exact⟨q,mcS,rfl⟩
   ·obtain⟨r,h1,h2⟩:=zHe ps _ p h
    exact⟨r,mcO _ h1,h2⟩
  ·rw[if_neg c]at h
   rcases List.mem_cons.1 h with rfl|h
   ·exact⟨q,mcS,rfl⟩
   ·exact⟨p,mcO _ h,rfl⟩
def zFt(n:Nat)(d:Dsk):Prop:= ∀k,k<3-> ∀p,p∈(d.g k).ps-> ∀a l c,p.sl= .slice (some a) l c->a.block<n
theorem zFt.ev{n k:Nat}{d:Dsk}{T:Nat->Int}{rest:List (Nat->Int)}(h:zFt n d)(hk:k<3):zFt n (evGo d k T rest).1:=fun j hj p hp a l c e=>by
 have e0:((evGo d k T rest).1.g j)=if j=k then{d.g k with ps:=(z08 T d.ran (d.g k).ps sd0).2,evs:=rest,left:=(d.g k).left-((z08 T d.ran (d.g k).ps sd0).1.steps+1)}else d.g j:=rfl;rw[e0]at hp
 by_cases c0:j=k
 ·rw[if_pos c0]at hp
  obtain⟨q,h1,h2⟩:=zHe _ _ p hp;exact h k hk q h1 a l c (h2▸e)
 ·rw[if_neg c0]at hp
  exact h j hj p hp a l c e
theorem zFt.left{n k:Nat}{d:Dsk}{x:Int}(h:zFt n d)(hk:k<3):zFt n (d.put k {d.g k with left:=x}):=fun j hj p hp=>by
 rw[z3r]at hp
 by_cases c0:j=k
 ·rw[if_pos c0]at hp;exact h k hk p hp
 ·rw[if_neg c0]at hp;exact h j hj p hp
theorem DOk.low{w:World}{B:Nat}{d:Dsk}{M:Int}(h:DOk w B d M):zFt w.heap.size d:=fun k hk p hp a l c e=>by
 obtain⟨bk,cap,e1,h1, -, -⟩:=(h.ps k hk p hp).lies;rw[e1]at e
 cases e;exact h1
theorem DOk.grown{w w':World}{B n:Nat}{d:Dsk}{M:Int}{row:Option Nat}(h:DOk w B d M)(hg:w.grownBy w' row)(hr: ∀b,row=some b->n<=b)(hl:zFt n d)(hB:B<n):DOk w' B d M:=by
 refine⟨FnAt.block h.at_ (hg.block B h.at_.lt fun e=>by have:=hr _ e.symm;omega),fun k hk p hp=>?_,h.few,h.evs,h.told,h.may0,h.may1,h.left0,h.left1,h.last0,h.last1,h.ran0,h.ran1⟩;have q:=h.ps k hk p hp;obtain⟨bk,cap,e,h1,h2,h3⟩:=q.lies;have hb:=hl k hk p hp _ _ _ e;exact⟨⟨bk,cap,e,Nat.lt_of_lt_of_le h1 hg.size,h2,z3x h3 (hg.block bk h1 fun x=>by have:=hr _ x.symm;have hb':bk<n:=hb;omega)⟩,q.some,q.few,q.right,q.nums,q.tab,q.tag.block e (hg.block bk h1 fun x=>by have:=hr _ x.symm;have hb':bk<n:=hb;omega)⟩
theorem zKl{w:World}{b1 b2 n1 n2 z1 z2:Nat}{e1 e2:TypeId}{v1 v2:Value}{xs1 xs2:List Value}(h1:w.ownsRow b1 e1 z1 v1 n1 xs1)(h2:w.ownsRow b2 e2 z2 v2 n2 xs2)(he:e1≠e2):v1.ownBlock=none\/v1.ownBlock≠v2.ownBlock:=by
 rcases h1.2 with⟨rfl, -⟩|⟨g,c,cur,rfl, -,hg, -⟩
 ·exact Or.inl rfl
 refine Or.inr fun e=>?_;rcases h2.2 with⟨rfl, -⟩|⟨g2,c2,cur2,rfl, -,hg2, -⟩
 ·exact absurd e (by simp[Value.ownBlock])
 have:g=g2:=by simpa[Value.ownBlock]using e
 rw[this,hg2]at hg;have:=Option.some.inj hg
 cases this;exact he rfl
theorem zNv{w:World}{b b' n z:Nat}{e:TypeId}{v:Value}{xs:List Value}(h:w.ownsRow b e z v n xs)(hb:b'<=b):w.ownsRow b' e z v n xs:=by
 refine⟨h.1,h.2.imp id fun x=>?_⟩;obtain⟨g,cap,cur,e1,e2,e3⟩:=x;exact⟨g,cap,cur,e1,by omega,e3⟩
theorem zM4(l:List Dn)(x:Dn):z6c (l++[x])=z6c l++x.cells:=by simp[z6c]
structure InSt (w:World) (B k:Nat) (d:Dsk) (M:Int) (ds0:List Dn) (vd:Value) (wr:World) (f:Nat):Prop where
 ex: ∃d' ds,DOk wr B d' (M+20-f)/\(d'.g k).evs.length<=f/\z2h k 20 (z69 d k) []=z2h k f d' (ds.map Dn.s)/\Kept B w wr/\DnAt wr w.heap.size vd (ds0++ds)/\(∀x,x∈ds->x.k=k)/\ds.length+f<=20/\zFt w.heap.size d'
def z5u(B:Nat)(rn:Int)(V:World):Prop:=V.cell? ⟨B,951,none⟩=some (A E rn)
theorem q3x{w:World}{B:Nat}{d:Dsk}(h:z0f w B d):z5u B d.ran w:=(FnAt.at h 951 kD).trans (congrArg some (q33 d))
theorem z74{w:World}{B k:Nat}{d:Dsk}{x:Gt}{rn:Int}(hr:d.ran=rn)(h:z0f w B (d.put k x)):z5u B rn w:=by rw[<-hr];exact q3x (d:=d.put k x) h
theorem z5u.later{w w':World}{B:Nat}{rn:Int}(h:z5u B rn w)(hB:B<w.heap.size)(hb:Below w.heap.size w w'):z5u B rn w':=(hb.cell (p:=⟨B,951,none⟩) hB).trans h
theorem z5u.row{w:World}{B g:Nat}{rn:Int}(h:z5u B rn w)(hg:B≠g)(cs:Array Value):z5u B rn (w.setRow g cs):=(World.cell?_of_block (a:=⟨B,951,none⟩) (setRow_other w g B cs hg)).trans h
theorem zU1{d:Dsk}{k:Nat}{T:Nat->Int}{rest:List (Nat->Int)}(he:(d.g k).evs=T::rest):(d.g k).evs.length=rest.length+1:=by rw[he];rfl
def z15:Nat->Dsk->Dsk×List (Nat×Sd)
 |0,d=>(d,[])
 |j+1,d=>((z1z (z15 j d).1 j).1,(z15 j d).2++(z1z (z15 j d).1 j).2.map fun s=>(j,s))
structure q74 (w:World) (B:Nat) (d:Dsk) (M:Int) (vd:Value) (wr:World) (j:Nat):Prop where
 ex: ∃d' ds,(z15 j d).1=d'/\DOk wr B d' (M+20*j)/\Kept B w wr/\DnAt wr w.heap.size vd ds/\(ds.map fun x=>(x.k,x.s))=(z15 j d).2/\ds.length<=20*j/\(∀i,j<=i->i<3->(d'.g i).left<=0)/\zFt w.heap.size d'
theorem zEq(d:Dsk){k:Nat}(x:Int)(hk:k<3)(j:Nat)(_:j<952):(d.put k {d.g k with left:=x}).cell j=if j=k*317+316 then A E x else d.cell j:=by
 rw[z65 d _ hk]
 by_cases c:k*317<=j/\j<k*317+317
 ·rw[if_pos c]
  obtain⟨i,rfl⟩: ∃i,j=k*317+i:=⟨j-k*317,by omega⟩;rw[Nat.add_sub_cancel_left,z1s d hk kO];unfold z0y;dsimp only
  by_cases c1:i<154
  ·rw[if_pos c1,if_pos c1,if_neg (show¬k*317+i=k*317+316 by omega)]
  rw[if_neg c1,if_neg c1]
  by_cases c2:i<314
  ·rw[if_pos c2,if_pos c2,if_neg (show¬k*317+i=k*317+316 by omega)]
  rw[if_neg c2,if_neg c2]
  by_cases c3:i=314
  ·rw[if_pos c3,if_pos c3,if_neg (show¬k*317+i=k*317+316 by omega)]
  rw[if_neg c3,if_neg c3]
  by_cases c4:i=315
  ·rw[if_pos c4,if_pos c4,if_neg (show¬k*317+i=k*317+316 by omega)]
  ·rw[if_neg c4,if_pos (show k*317+i=k*317+316 by omega)]
 rw[if_neg c,if_neg (show¬j=k*317+316 by omega)]
theorem z89{w:World}{B k:Nat}{d:Dsk}(hD:z0f w B d)(hk:k<3):w.cell? ⟨B,k*317+316,none⟩=some (A E (d.g k).left):=hD.gate hk kD
theorem zCo{w:World}{B k:Nat}{d:Dsk}(hD:z0f w B d)(hk:k<3):w.cell? ⟨B,k*317+315,none⟩=some (A E (d.g k).may):=hD.gate hk kD
theorem zHb{w:World}{B k:Nat}{d:Dsk}(hD:z0f w B d)(hk:k<3):w.cell? ⟨B,k*317+314,none⟩=some (A E ((d.g k).evs.length:Int)):=hD.gate hk kD
theorem DOk.left{w w':World}{B k:Nat}{d:Dsk}{M x:Int}(h:DOk w B d M)(hk:k<3)(h0: -1601<=x)(h1:x<=2000)(hkp:Kept B w w')(hD:z0f w' B (d.put k {d.g k with left:=x})):DOk w' B (d.put k {d.g k with left:=x}) M:=by
 refine⟨hD,?_,?_,?_,?_,?_,?_,?_,?_,?_,?_,h.ran0,h.ran1⟩<;>intro j hj<;>rw[z3r]<;>split
 ·exact fun p hp=>(h.ps k hk p hp).kept hkp
 ·exact fun p hp=>(h.ps j hj p hp).kept hkp
 ·exact h.few k hk
 ·exact h.few j hj
 ·exact h.evs k hk
 ·exact h.evs j hj
 ·exact h.told k hk
 ·exact h.told j hj
 ·exact h.may0 k hk
 ·exact h.may0 j hj
 ·exact h.may1 k hk
 ·exact h.may1 j hj
 ·exact h0
 ·exact h.left0 j hj
 ·exact h1
 ·exact h.left1 j hj
 ·exact h.last0 k hk
 ·exact h.last0 j hj
 ·exact h.last1 k hk
 exact h.last1 j hj
theorem zOp(k:Nat): ∀(f:Nat)(d:Dsk)(l:List Sd),((d.g k).evs=[]\/(d.g k).left<=0)->z2h k f d l=(d,l)
 |0,d,l,_=>rfl
 |f+1,d,l,h=>by
  rw[z2h]
  cases he:(d.g k).evs with
  |nil=>rfl
  |cons T rest=>
   dsimp only;rw[if_neg];rcases h with h|h
   ·rw[he]at h;cases h
   ·omega
theorem z7z(k:Nat): ∀(f:Nat)(d:Dsk)(l:List Sd)(i:Nat),i≠k->(z2h k f d l).1.g i=d.g i
 |0,d,l,i,_=>rfl
 |f+1,d,l,i,hi=>by
  rw[z2h]
  cases he:(d.g k).evs with
  |nil=>rfl
  |cons T rest=>
   dsimp only
   by_cases c:0<(d.g k).left
   ·rw[if_pos c,z7z k f _ _ i hi]
    exact if_neg hi
   ·rw[if_neg c]
theorem DOk.mono{w:World}{B:Nat}{d:Dsk}{M M':Int}(h:DOk w B d M)(hm:M<=M'):DOk w B d M':=⟨h.at_,h.ps,h.few,h.evs,h.told,h.may0,h.may1,h.left0,h.left1,h.last0,fun k hk=>Int.le_trans (h.last1 k hk) hm,h.ran0,Int.le_trans h.ran1 hm⟩
theorem zD8{wr wb:World}{B g base:Nat}{D:Dsk}{cs:Array Value}{vo:Value}{n:Nat}{xs:List Value}(hk:Kept B wr wb)(hg:wr.heap.size<=g)(hB:B<wr.heap.size)(hz:wb.heap[g]?=some (cT #[A E 0,A E 0,.slice none 0 0,A E 0] 99 (0,0)))(hd:z0f wb B D)(ho:wb.ownsRow base 2 1 vo n xs)(hb:wr.heap.size<=base)(hne:vo.ownBlock=some g->False):
  Kept B wr (wb.setRow g cs)/\(wb.setRow g cs).heap[g]?=some (cT cs 99 (0,0))/\z0f (wb.setRow g cs) B D/\(wb.setRow g cs).ownsRow wr.heap.size 2 1 vo n xs:=
 ⟨⟨hk.os,hk.tape,hk.output,by simpa[World.setRow]using hk.size,fun i hi hx=>(setRow_other wb _ _ _ kO).trans (hk.block i hi hx)⟩,setRow_heap wb g _ cs _ _ hz,FnAt.block hd (setRow_other wb g B cs kO),z9q ho hb hne⟩
theorem zI4{w:World}{b:Nat}{e:TypeId}{z:Nat}{vo:Value}{n:Nat}{xs:List Value}{a c q:Int}(h:w.ownsRow b e z vo n xs):(#[A E a,A E c,vo,A E q]:Array Value).all (·.oneCell')=true:=by
 rcases rowShape h with⟨rfl, -⟩|⟨g,cap,rfl⟩<;>kernel_rfl
theorem zAq{o:Oper}{u:Act}{x y:Operand}{W:World}{g:Nat}{cs:Array Value}(hg:W.heap[g]?=some (cT #[A E 0,A E 0,.slice none 0 0,A E 0] 99 (0,0)))(h1:cs.all (·.oneCell')=true)(ho:o.op= .store 99 x y)(hx:u.eval x= pT (some ⟨g,0,none⟩))(hy:u.eval y= .agg cs)(hs:cs.size=4):(execOp u.eval o).run tP W= .ok .skip (W.setRow g cs):=by
 have hl:=run_storeVar_row (P:=tP) W g 99 99 _ cs hg (by rw[Tryz.infoSaid,hs]) (by rw[hs];rfl) h1;unfold execOp;simp only[ho,hx,hy,Instr.storeAt,Instr.sureAddr,Sem.run_bind,Sem.run_pure,Result.andThen_ok,hl]
theorem zPb(d:Dsk)(x:Int)(j:Nat)(_:j<952):({d with ran:=x}:Dsk).cell j=if j=951 then A E x else d.cell j:=by
 unfold Dsk.cell;dsimp only
 by_cases h:j<951
 ·rw[if_pos h,if_pos h,if_neg kO]
 rw[if_neg h,if_pos kO]
theorem z5j(w:World)(cs:Array Value)(t:TypeId): ∀(j:Nat) u,cs.toList[j]?=some u->(w.alloc (cT cs t)).cell? ((⟨w.heap.size,0,none⟩:Addr).add j)=some u:=by
 intro j u hu;rw[Addr.add_mid,Nat.zero_add,cell_of_row _ w.heap.size j cs t (0,0) (heap_alloc_new w _)];simpa using hu
theorem Tryz.infoDn:(Tryz.prog.info? 101).map (fun i=>(i.zero,i.size,i.bytes))=some (some (.agg #[A E 0,A E 0,A E 0,.slice none 0 0,A E 0]),5,56):=kR
theorem zXr(B:Nat)(d:Dsk)(M:Int)(hM0:0<=M)(hM:M<=900000)(w:World)(HD:Hid (DOk w B d M))(HZ:Hid (∀k,k<3->(d.g k).left<=0)):
  Calls tP 54 #[pT (some ⟨B,0,none⟩)] w fun e w'=> ∃vd ds,e= rT vd/\Kept B w w'/\DOk w' B (z15 3 d).1 (M+60)/\DnAt w' w.heap.size vd ds/\(ds.map fun x=>(x.k,x.s))=(z15 3 d).2/\ds.length<=60:=by
 have hlt:=HD.out.at_.lt;have HO:Hid (q74 w B d M (.slice none 0 0) w 0):=⟨d,[],rfl,by simpa using HD.out,z1b _ _,⟨World.ownsRow_nil _ _ _ _,fun x hx=>absurd hx List.not_mem_nil⟩,rfl,Nat.zero_le _,fun i _ hi=>HZ.out i hi,HD.out.low⟩;go_enter Tryz.func54,Tryz.ntmps54;go_upto_region 3 with fail
 go_loopw [3,7] (fun vd jv wr=> ∃j:Nat,jv=A E j/\j<=3/\Hid (q74 w B d M vd wr j)) (fun _ jv _=>3-(intOf jv).toNat)
 case atStart=>exact⟨0,rfl,by decide,HO.out⟩
 case round=>
  obtain⟨k,rfl,hk3,H⟩:=hrel;clear HO;have hk0:(0:Int)<=(k:Int):=kO
  by_cases hk:k<3
  ·have hk':(k:Int)<3:=kO
   obtain⟨dj,ds0,HRT,hdo,hkp,hdn,hmap,hlen,hz,hlow⟩:=H.out.ex;have HRT:Hid ((z15 k d).1=dj):=HRT;have HMAP:Hid ((ds0.map fun x=>(x.k,x.s))=(z15 k d).2):=hmap;clear hmap;have l0:=hz k (Nat.le_refl _) hk;have l1:=hdo.left0 k hk;have m0:=hdo.may0 k hk;have m1:=hdo.may1 k hk;obtain⟨lf,HLF⟩: ∃lf,Hid ((dj.g k).left=lf):=⟨_,rfl⟩;obtain⟨my,HMY⟩: ∃my,Hid ((dj.g k).may=my):=⟨_,rfl⟩;rw[HLF.out]at l0 l1;rw[HMY.out]at m0 m1;have e6:IntKind.i64.wrap (lf+my)=lf+my:=by rw[IntWalk.i64_left,z0s kO kO]
   have hK:Blk wr [(B,cT (Array.ofFn (n:=952) fun i=>Dsk.cell dj i.1) 125 (0,0))] wr:=(Blk.nil (bF _ _)).cons hdo.at_;have HDO:Hid (DOk wr B dj (M+20*(k:Int))):=hdo;have HDN:Hid (DnAt wr w.heap.size u3 ds0):=hdn;clear hdo hdn;go_upto_region 6 with fail
   refine z0n (C:=Blk wr [(B,cT (Array.ofFn (n:=952) fun i=>Dsk.cell dj i.1) 125 (0,0))]) (n0:=wr.heap.size) 11 [] [] kR kR (fun d _ _ _ _ h=>by cases d<;>exact h) (Blk.stable _ _) (fun w2 h=>h.1.size) hK.drew trivial ?_;simp only[List.take_succ_cons,List.take_zero,List.drop_succ_cons,List.drop_zero,List.length_nil,Nat.reduceAdd]
   repeat(first
    |(refine z0k kI ?_;simp only[pS])
    |(refine z09 kI (v:=?_) ?_ ?_;rotate_left;(intro w2 hC;have hDk:z0f _ B dj:=(hC.2 _ mcS);have c1:World.cell? _ ⟨B,k*317+316,none⟩=some (A E lf):=(by have h:=z89 hDk hk;rw[HLF.out]at h;exact h);have c2:World.cell? _ ⟨B,k*317+315,none⟩=some (A E my):=(by have h:=zCo hDk hk;rw[HMY.out]at h;exact h);go_simp;try with_reducible rfl);simp only[pS]))
   refine z0r ?_;intro w4 hC hB4;have hDk:z0f _ B dj:=(hC.2 _ mcS);have c1:World.cell? _ ⟨B,k*317+316,none⟩=some (A E lf):=(by have h:=z89 hDk hk;rw[HLF.out]at h;exact h);have c2:World.cell? _ ⟨B,k*317+315,none⟩=some (A E my):=(by have h:=zCo hDk hk;rw[HMY.out]at h;exact h);have cf:=FnAt.frozen hDk (k*317+316);go_upto_region 7 with fail
   have hkp5:Kept B w (w4.setCell ⟨B,k*317+316,none⟩ (A E (lf+my))):=z13 (z1h hkp hC.1) _ _;have hk45:Kept B wr (w4.setCell ⟨B,k*317+316,none⟩ (A E (lf+my))):=z13 (z0d hC.1 B) _ _
   have hd5:z0f (w4.setCell ⟨B,k*317+316,none⟩ (A E (lf+my))) B (z69 dj k):=by
    refine FnAt.ext (FnAt.set hDk (k*317+316) _) fun j hj=>?_;unfold z69;rw[HLF.out,HMY.out];exact zEq dj (lf+my) hk j hj
   have HI:Hid (InSt w B k dj (M+20*k) ds0 u3 (w4.setCell ⟨B,k*317+316,none⟩ (A E (lf+my))) 20):=by
    refine⟨z69 dj k,[],?_,?_,rfl,hkp5,?_,fun x hx=>absurd hx List.not_mem_nil,by decide,hlow.left hk⟩
    ·have h:=HDO.out.left (x:=(dj.g k).left+(dj.g k).may) hk (by rw[HLF.out,HMY.out];omega) (by rw[HLF.out,HMY.out];omega) hk45 hd5
     rw[show M+20*(k:Int)+20-((20:Nat):Int)=M+20*(k:Int)by omega];exact h
    ·have:=HDO.out.evs k hk
     show((z69 dj k).g k).evs.length<=20;unfold z69;rw[z3r,if_pos rfl];exact this
    ·rw[List.append_nil];exact HDN.out.kept hk45 hlt
   clear hC hDk c1 c2 cf hB4 hK hkp hkp5 hk45 hd5 HDO HDN e6;generalize w4.setCell ⟨B,k*317+316,none⟩ (A E (lf+my))=w5 at HI⊢;go_loopw [3] (fun vd wi=> ∃f:Nat,f<=20/\Hid (InSt w B k dj (M+20*k) ds0 vd wi f)) (fun _ wi=>(intOf ((wi.cell? ⟨B,k*317+314,none⟩).getD undef)).toNat)
   case atStart=>exact⟨20,Nat.le_refl _,HI.out⟩
   case round=>
    obtain⟨f,hf20,HIN⟩:=hrel;clear HI;obtain⟨d',ds,hdo,hev,hgo,hkp,hdn,hks,hdl,hlow'⟩:=HIN.out.ex;have cW:=zHb hdo.at_ hk;have cL:=z89 hdo.at_ hk;obtain⟨lv,HLV⟩: ∃lv,Hid ((d'.g k).left=lv):=⟨_,rfl⟩;rw[HLV.out]at cL;have HGO:Hid (z2h k 20 (z69 dj k) []=z2h k f d' (ds.map Dn.s)):=hgo;clear hgo
    by_cases hst:(d'.g k).evs=[]\/lv<=0
    ·have HGS:Hid (z2h k 20 (z69 dj k) []=(d',ds.map Dn.s)):=by have h:=zOp k f d' (ds.map Dn.s) (by rw[HLV.out];exact hst);rw[HGO.out];exact h
     have hol: ∀i,i≠k->d'.g i=dj.g i:=fun i hi=>by
      have h:=z7z k 20 (z69 dj k) [] i hi;rw[HGS.out]at h;rw[h];show(dj.put k _).g i=_;rw[z3r,if_neg hi]
     have HDO:Hid (DOk wr B d' (M+20*((k+1:Nat):Int))):=hdo.mono kO;have HDN:Hid (DnAt wr w.heap.size u3 (ds0++ds)):=hdn;have hlv0: -1601<=lv:=by have h:=hdo.left0 k hk;rw[HLV.out]at h;exact h
     have HMM:Hid (((ds0++ds).map fun x=>(x.k,x.s))=(z15 (k+1) d).2):=by
      rw[z15,List.map_append,HMAP.out,HRT.out];unfold z1z;rw[HGS.out];dsimp only;rw[List.map_map];congr 1;exact List.map_congr_left fun x hx=>by rw[hks x hx];rfl
     have hRR:(z15 (k+1) d).1=z5y d' k:=by
      rw[z15,HRT.out];unfold z1z;rw[HGS.out]
     have HRR:Hid ((z15 (k+1) d).1=z5y d' k):=hRR;have hLL:(ds0++ds).length<=20*(k+1):=by rw[List.length_append];omega
     have HLL:Hid ((ds0++ds).length<=20*(k+1)):=hLL;clear hRR hLL;have hfr:=FnAt.frozen hdo.at_ (k*317+316);have hdk:=hdo.at_;clear hdo hdn HGO
     by_cases hev0:(d'.g k).evs=[]
     ·have h0:(d'.g k).evs.length=0:=by rw[hev0];rfl
      rw[h0]at cW;have cW:wr.cell? ⟨B,k*317+314,none⟩=some (A E 0):=cW;have HEV:Hid ((d'.g k).evs.length=0):=h0;clear hev0 h0 hst;go_upto_region 14 with fail
      have hPO:z5y d' k=d'.put k {d'.g k with left:=min lv 0}:=by unfold z5y;rw[if_pos HEV.out,HLV.out]
      have HPO:Hid (z5y d' k=d'.put k {d'.g k with left:=min lv 0}):=hPO;have hk5:=z13 hkp (k*317+316) (A E (min lv 0));have hkx:Kept B wr (wr.setCell ⟨B,k*317+316,none⟩ (A E (min lv 0))):=z13 (z1b B wr) _ _;have hd5:z0f (wr.setCell ⟨B,k*317+316,none⟩ (A E (min lv 0))) B (d'.put k {d'.g k with left:=min lv 0}):=FnAt.ext (FnAt.set hdk (k*317+316) _) fun j hj=>zEq d' _ hk j hj;have HDO5:=HDO.out.left (x:=min lv 0) hk kO kO hkx hd5;have HDN5:=HDN.out.kept hkx hlt
      have HX:Hid (q74 w B d M u3 (wr.setCell ⟨B,k*317+316,none⟩ (A E (min lv 0))) (k+1)):=by
       refine⟨_,ds0++ds,by rw[HRR.out,HPO.out],HDO5,hk5,HDN5,HMM.out,HLL.out,fun i h1 h2=>?_,hlow'.left hk⟩;rw[z3r,if_neg kO,hol i kO];exact hz i kO h2
      clear hPO hk5 hkx hd5 HDO5 HDN5;go_wp2_with fail;go_roundw
      case rel=>exact⟨k+1,by go_num,by omega,HX.out⟩
      case measure=>simp[intOf];omega
     ·have hlv1:lv<=0:=hst.resolve_left hev0
      obtain⟨m,HMm⟩: ∃m,Hid ((d'.g k).evs.length=m+1):=⟨(d'.g k).evs.length-1,by have:(d'.g k).evs.length≠0:=fun h=>hev0 (List.eq_nil_of_length_eq_zero h);show _=_;omega⟩;rw[HMm.out]at cW;have cW:wr.cell? ⟨B,k*317+314,none⟩=some (A E ((m:Int)+1)):=cW;have t1:decide (0<(m:Int)+1)=true:=decide_eq_true kO;have t2:decide (0<lv)=false:=decide_eq_false kO;have t3:((m:Int)+1==0)=false:=kZ;have hPO:z5y d' k=d':=by unfold z5y;rw[if_neg (by rw[HMm.out];omega)]
      have HPO:Hid (z5y d' k=d'):=hPO;clear hPO;clear hev0 hst;go_wp2_with fail;go_roundw
      case rel=>
       refine⟨k+1,by go_num,by omega,⟨d',ds0++ds,by rw[HRR.out,HPO.out],HDO.out,hkp,HDN.out,HMM.out,HLL.out,fun i h1 h2=>?_,hlow'⟩⟩;rw[hol i kO];exact hz i kO h2
      case measure=>simp[intOf];omega
    ·obtain⟨T,rest,he⟩: ∃T rest,(d'.g k).evs=T::rest:=by
      cases h:(d'.g k).evs with
      |nil=>exact absurd (Or.inl h) hst
      |cons T r=>exact⟨T,r,rfl⟩
     have hlv:0<lv:=by have: ¬lv<=0:=fun h=>hst (Or.inr h);omega
     have HE:Hid ((d'.g k).evs=T::rest):=he;obtain⟨m,HMm⟩: ∃m,Hid (rest.length=m):=⟨_,rfl⟩;have hml:(d'.g k).evs.length=m+1:=by rw[zU1 he,HMm.out]
     rw[hml]at cW hev;clear he hst;have hm20:m<20:=kO;have cW:wr.cell? ⟨B,k*317+314,none⟩=some (A E ((m:Int)+1)):=cW;have t1:decide (0<(m:Int)+1)=true:=decide_eq_true kO;have t2:decide (0<lv)=true:=by simpa using hlv
     have hlw:=hdo.at_.lt;obtain⟨rn,HRN⟩: ∃rn,Hid (d'.ran=rn):=⟨_,rfl⟩;have hS0:z5u B rn wr:=by have h:=q3x hdo.at_;rw[HRN.out]at h;exact h
     have HDO:Hid (DOk wr B d' (M+20*k+20-f)):=hdo;have HDN:Hid (DnAt wr w.heap.size u3 (ds0++ds)):=hdn;have hdk:=hdo.at_;clear hdo hdn;go_upto_region 8 with fail
     have HCW:Hid (wr.cell? ⟨B,k*317+314,none⟩=some (A E ((m:Int)+1))):=cW;clear cW cL t1 t2;have HT:Hid (∀i,i<8->In64 (T i)):=HDO.out.told k hk T (by rw[HE.out];exact mcS);have HTI:Hid (In64 rn):=by have h0:=HDO.out.ran0;have h1:=HDO.out.ran1;rw[HRN.out]at h0 h1;exact⟨by omega,by omega⟩
     have hnx: ∀W:World,z0f W B d'->Calls tP 92 #[pT (some ⟨B,k*317,none⟩)] W fun e w'=>e= rT (.agg (z0j T))/\Kept B W w'/\z0f w' B (d'.put k {d'.g k with evs:=rest}):=fun W hW=>q2g B k m hk d' T rest W hW HE.out HMm.out hm20 HDO.out.one
     have hru: ∀W:World,Kept B wr W->z0f W B (d'.put k {d'.g k with evs:=rest})->Calls tP 91 #[pT (some ⟨B,k*317,none⟩),.agg (z0j T),A E rn] W fun e w'=> ∃v,e= rT v/\ ∃vo,v= .agg #[A E (z08 T rn (d'.g k).ps sd0).1.bf,A E (z08 T rn (d'.g k).ps sd0).1.num,vo,A E (z08 T rn (d'.g k).ps sd0).1.steps]/\Kept B W w'/\z0f w' B (d'.put k {d'.g k with ps:=(z08 T rn (d'.g k).ps sd0).2,evs:=rest})/\w'.ownsRow (W.heap.size+1+1+1) 2 1 vo (z08 T rn (d'.g k).ps sd0).1.out.length ((z08 T rn (d'.g k).ps sd0).1.out.map (Value.int .i64)):=by
      intro W hkW hW;have hps:((d'.put k {d'.g k with evs:=rest}).g k).ps=(d'.g k).ps:=by rw[z3r,if_pos rfl]
      have h:=q5v B k hk (d'.put k {d'.g k with evs:=rest}) T rn W hW (by rw[hps];exact HDO.out.few k hk) (by intro p hp;rw[hps]at hp;exact(HDO.out.ps k hk p hp).kept hkW) HT HTI;rw[hps,zWg]at h;exact h.mono fun e w' ⟨vo,h1,h2,h3,h4⟩=>⟨_,h1,vo,rfl,h2,by rw[zG9]at h3;exact h3,h4⟩
     go_cut [6] (fun s6 wx=>Hid (∃g vo,s6= pT (some ⟨g,0,none⟩)/\Kept B wr wx/\wr.heap.size<=g/\wx.heap[g]?=some (cT #[A E (z08 T rn (d'.g k).ps sd0).1.bf,A E (z08 T rn (d'.g k).ps sd0).1.num,vo,A E (z08 T rn (d'.g k).ps sd0).1.steps] 99 (0,0))/\z0f wx B (d'.put k {d'.g k with ps:=(z08 T rn (d'.g k).ps sd0).2,evs:=rest})/\wx.ownsRow wr.heap.size 2 1 vo (z08 T rn (d'.g k).ps sd0).1.out.length ((z08 T rn (d'.g k).ps sd0).1.out.map (Value.int .i64))))
     case first=>
      have hS:z5u B rn wr.drew:=hS0;refine wp_region_held_drew (S:=z5u B rn) kR hS fun _=>?_;change wpAnyH _ _ _ _ _ 12 (Array.replicate 12 false) _ _
      refine tkH (i:=0) (some 38) (pT (some ⟨B,k*317,none⟩)) rfl rfl (fun _ _=>kG) hS ?_;simp only[pS];refine tkH (i:=1) (some 39) (pT (some ⟨B,k*317,none⟩)) rfl rfl (fun _ _=>kG) hS ?_;simp only[pS];refine tkH (i:=2) (some 40) (pT (some ⟨B,k*317,none⟩)) rfl rfl (fun _ _=>kG) hS ?_;simp only[pS];refine tkH (i:=3) (some 41) (pT (some ⟨B,k*317,none⟩)) rfl rfl (fun _ _=>kG) hS ?_;simp only[pS];refine tkH (i:=5) (some 43) (pT (some ⟨B,0,none⟩)) rfl rfl (fun _ _=>kG) hS ?_;simp only[pS];refine tkH (i:=6) (some 44) (pT (some ⟨B,0,none⟩)) rfl rfl (fun _ _=>kG) hS ?_;simp only[pS];refine tkH (i:=7) (some 45) (pT (some ⟨B,951,none⟩)) rfl rfl (fun _ _=>kG) hS ?_;simp only[pS];refine tkH (i:=8) (some 46) (A E rn) rfl rfl (fun V hV=>by have c2:V.cell? ⟨B,951,none⟩=some (A E rn):=hV;go_simp;try rfl) hS ?_;simp only[pS];have hk0:Kept B wr wr.drew:=z7w (z1b B wr);have hd0:z0f wr.drew B d':=hdk;have hlw0:B<wr.drew.heap.size:=hlw;have hsz0:wr.heap.size<=wr.drew.heap.size:=Nat.le_refl _;generalize wr.drew=w0 at hk0 hd0 hlw0 hsz0 hS⊢;refine wpAnyH_ready (rs:=[4,10]) kR kS ?_;refine z2m (some 42) 92 #[pT (some ⟨B,k*317,none⟩)] rfl rfl kI kG ?_ (z4p (some 6) (pT (some ⟨w0.heap.size,0,none⟩)) (w0.alloc (cT #[A E 0,A E 0,.slice none 0 0,A E 0] 99)) rfl rfl kI kG (z5u.later hS hlw0 ((bF _ _).alloc (Nat.le_refl _) _)) ?_ AllReadyH.nil)
      ·refine(hnx w0 hd0).mono ?_
       rintro e wa ⟨rfl,hkwa,hdwa⟩;have hSwa:z5u B rn wa:=z74 HRN.out hdwa;have hkwwa:=z18 hk0 hkwa;refine⟨_,rfl,hSwa,?_⟩;simp only[pS];refine wpAnyH_ready (rs:=[9,10]) kR kS ?_;refine z2m (some 47) 91 #[pT (some ⟨B,k*317,none⟩),.agg (z0j T),A E rn] rfl rfl kI kG ?_ (z4p (some 6) (pT (some ⟨wa.heap.size,0,none⟩)) (wa.alloc (cT #[A E 0,A E 0,.slice none 0 0,A E 0] 99)) rfl rfl kI kG (z5u.later hSwa hdwa.lt ((bF _ _).alloc (Nat.le_refl _) _)) ?_ AllReadyH.nil)
       ·refine(hru wa hkwwa hdwa).mono ?_
        rintro e wb ⟨v,rfl,vo,rfl,hkwb,hdwb,howb⟩;have hSwb:z5u B rn wb:=z74 HRN.out hdwb;have hkwwb:=z18 hkwwa hkwb;refine⟨_,rfl,hSwb,?_⟩;simp only[pS];refine wpAnyH_ready (rs:=[10]) kR kS ?_;refine z4p (some 6) (pT (some ⟨wb.heap.size,0,none⟩)) (wb.alloc (cT #[A E 0,A E 0,.slice none 0 0,A E 0] 99)) rfl rfl kI kG (z5u.later hSwb hdwb.lt ((bF _ _).alloc (Nat.le_refl _) _)) ?_ AllReadyH.nil;simp only[pS];have hzc:(wb.alloc (cT #[A E 0,A E 0,.slice none 0 0,A E 0] 99)).heap[wb.heap.size]?=some (cT #[A E 0,A E 0,.slice none 0 0,A E 0] 99 (0,0)):=heap_alloc_new wb _;have hkc:=z1l hkwwb (cT #[A E 0,A E 0,.slice none 0 0,A E 0] 99);have hdc:=FnAt.block hdwb (heap_alloc_old wb (cT #[A E 0,A E 0,.slice none 0 0,A E 0] 99) hdwb.lt);have hlc:wr.heap.size<=wb.heap.size:=hkwwb.size;have hxc:(wb.alloc (cT #[A E 0,A E 0,.slice none 0 0,A E 0] 99)).heap.size=wb.heap.size+1:=by simp
        have hD:=zD8 (cs:=#[A E (z08 T rn (d'.g k).ps sd0).1.bf,A E (z08 T rn (d'.g k).ps sd0).1.num,vo,A E (z08 T rn (d'.g k).ps sd0).1.steps]) hkc hlc hlw hzc hdc (howb.alloc (cT #[A E 0,A E 0,.slice none 0 0,A E 0] 99)) (by have:=hkwwa.size;omega) (fun e=>by have:=(World.ownsRow.lt howb _ e).2;omega);refine wpAnyH_ready (rs:=[11]) kR kS ?_;refine z5n ((wb.alloc (cT #[A E 0,A E 0,.slice none 0 0,A E 0] 99)).setRow wb.heap.size #[A E (z08 T rn (d'.g k).ps sd0).1.bf,A E (z08 T rn (d'.g k).ps sd0).1.num,vo,A E (z08 T rn (d'.g k).ps sd0).1.steps]) rfl rfl kI (zAq (g:=wb.heap.size) hzc (zI4 (howb.alloc (cT #[A E 0,A E 0,.slice none 0 0,A E 0] 99))) rfl rfl rfl rfl) (z5u.row (z74 HRN.out hdc) kO _) ?_ AllReadyH.nil;simp only[pS];refine wpAnyH_done kR ?_ _;go_wp2_with fail;go_meet;exact⟨wb.heap.size,vo,rfl,hD.1,hlc,hD.2.1,hD.2.2.1,hD.2.2.2⟩
       ·simp only[pS]
        have hzc:(wa.alloc (cT #[A E 0,A E 0,.slice none 0 0,A E 0] 99)).heap[wa.heap.size]?=some (cT #[A E 0,A E 0,.slice none 0 0,A E 0] 99 (0,0)):=heap_alloc_new wa _;have hkc:=z1l hkwwa (cT #[A E 0,A E 0,.slice none 0 0,A E 0] 99);have hdc:=FnAt.block hdwa (heap_alloc_old wa (cT #[A E 0,A E 0,.slice none 0 0,A E 0] 99) hdwa.lt);have hlc:wr.heap.size<=wa.heap.size:=hkwwa.size;have hxc:(wa.alloc (cT #[A E 0,A E 0,.slice none 0 0,A E 0] 99)).heap.size=wa.heap.size+1:=by simp
        refine wpAnyH_ready (rs:=[9]) kR kS ?_;refine z2m (some 47) 91 #[pT (some ⟨B,k*317,none⟩),.agg (z0j T),A E rn] rfl rfl kI kG ?_ AllReadyH.nil;refine(hru (wa.alloc (cT #[A E 0,A E 0,.slice none 0 0,A E 0] 99)) hkc hdc).mono ?_;rintro e wb ⟨v,rfl,vo,rfl,hkwb,hdwb,howb⟩;have hSwb:z5u B rn wb:=z74 HRN.out hdwb;have hkwwb:=z18 hkc hkwb;refine⟨_,rfl,hSwb,?_⟩;simp only[pS];have hzb:=(hkwb.block wa.heap.size kO (fun e=>by have:=Option.some.inj e;have:=hdwa.lt;omega)).trans hzc;have hD:=zD8 (cs:=#[A E (z08 T rn (d'.g k).ps sd0).1.bf,A E (z08 T rn (d'.g k).ps sd0).1.num,vo,A E (z08 T rn (d'.g k).ps sd0).1.steps]) hkwwb hlc hlw hzb hdwb howb kO (fun e=>by have:=(World.ownsRow.lt howb _ e).1;omega);refine wpAnyH_ready (rs:=[11]) kR kS ?_;refine z5n (wb.setRow wa.heap.size #[A E (z08 T rn (d'.g k).ps sd0).1.bf,A E (z08 T rn (d'.g k).ps sd0).1.num,vo,A E (z08 T rn (d'.g k).ps sd0).1.steps]) rfl rfl kI (zAq (g:=wa.heap.size) hzb (zI4 howb) rfl rfl rfl rfl) (z5u.row (z74 HRN.out hdwb) kO _) ?_ AllReadyH.nil;simp only[pS];refine wpAnyH_done kR ?_ _;go_wp2_with fail;go_meet;exact⟨wa.heap.size,vo,rfl,hD.1,hlc,hD.2.1,hD.2.2.1,hD.2.2.2⟩
      ·simp only[pS]
       have hzc:(w0.alloc (cT #[A E 0,A E 0,.slice none 0 0,A E 0] 99)).heap[w0.heap.size]?=some (cT #[A E 0,A E 0,.slice none 0 0,A E 0] 99 (0,0)):=heap_alloc_new w0 _;have hkc:=z1l hk0 (cT #[A E 0,A E 0,.slice none 0 0,A E 0] 99);have hdc:=FnAt.block hd0 (heap_alloc_old w0 (cT #[A E 0,A E 0,.slice none 0 0,A E 0] 99) hd0.lt);have hlc:wr.heap.size<=w0.heap.size:=hk0.size;have hxc:(w0.alloc (cT #[A E 0,A E 0,.slice none 0 0,A E 0] 99)).heap.size=w0.heap.size+1:=by simp
       refine wpAnyH_ready (rs:=[4]) kR kS ?_;refine z2m (some 42) 92 #[pT (some ⟨B,k*317,none⟩)] rfl rfl kI kG ?_ AllReadyH.nil;refine(hnx (w0.alloc (cT #[A E 0,A E 0,.slice none 0 0,A E 0] 99)) hdc).mono ?_;rintro e wa ⟨rfl,hkwa,hdwa⟩;have hSwa:z5u B rn wa:=z74 HRN.out hdwa;have hkwwa:=z18 hkc hkwa;refine⟨_,rfl,hSwa,?_⟩;simp only[pS];have hza:=(hkwa.block w0.heap.size kO (fun e=>by have:=Option.some.inj e;omega)).trans hzc;have hsa:w0.heap.size<wa.heap.size:=(Array.getElem?_eq_some_iff.1 hza).1;refine wpAnyH_ready (rs:=[9]) kR kS ?_;refine z2m (some 47) 91 #[pT (some ⟨B,k*317,none⟩),.agg (z0j T),A E rn] rfl rfl kI kG ?_ AllReadyH.nil;refine(hru wa hkwwa hdwa).mono ?_;rintro e wb ⟨v,rfl,vo,rfl,hkwb,hdwb,howb⟩;have hSwb:z5u B rn wb:=z74 HRN.out hdwb;have hkwwb:=z18 hkwwa hkwb;refine⟨_,rfl,hSwb,?_⟩;simp only[pS];have hzb:=(hkwb.block w0.heap.size hsa (fun e=>by have:=Option.some.inj e;omega)).trans hza;have hD:=zD8 (cs:=#[A E (z08 T rn (d'.g k).ps sd0).1.bf,A E (z08 T rn (d'.g k).ps sd0).1.num,vo,A E (z08 T rn (d'.g k).ps sd0).1.steps]) hkwwb hlc hlw hzb hdwb howb kO (fun e=>by have:=(World.ownsRow.lt howb _ e).1;omega);refine wpAnyH_ready (rs:=[11]) kR kS ?_;refine z5n (wb.setRow w0.heap.size #[A E (z08 T rn (d'.g k).ps sd0).1.bf,A E (z08 T rn (d'.g k).ps sd0).1.num,vo,A E (z08 T rn (d'.g k).ps sd0).1.steps]) rfl rfl kI (zAq (g:=w0.heap.size) hzb (zI4 howb) rfl rfl rfl rfl) (z5u.row (z74 HRN.out hdwb) kO _) ?_ AllReadyH.nil;simp only[pS];refine wpAnyH_done kR ?_ _;go_wp2_with fail;go_meet;exact⟨w0.heap.size,vo,rfl,hD.1,hlc,hD.2.1,hD.2.2.1,hD.2.2.2⟩
     clear hnx hru hS0 hdk;obtain⟨g,vo,rfl,hkc,hgl,hgr,hdc,hoc⟩:=hcut.out;clear hcut;obtain⟨so,HSO⟩: ∃so,Hid ((z08 T rn (d'.g k).ps sd0).1=so):=⟨_,rfl⟩;rw[HSO.out]at hgr hoc;obtain⟨qa,qc,rfl⟩:=z2d hoc
     have hbd:0<=so.steps/\so.steps<=1600:=by
      obtain⟨-,c2,c3, -, -⟩:=z5g (w:=wr) (B:=B) HT.out HTI.out (d'.g k).ps sd0 (HDO.out.ps k hk);rw[HSO.out]at c2 c3;have:=HDO.out.few k hk;have c2':0<=so.steps:=c2;have c3':so.steps<=0+200*((d'.g k).ps.length:Int):=c3;omega
     have hrb:0<=rn/\rn<=1000000:=by have h0:=HDO.out.ran0;have h1:=HDO.out.ran1;rw[HRN.out]at h0 h1;omega
     have hlb:lv<=2000:=by have h:=HDO.out.left1 k hk;rw[HLV.out]at h;exact h
     have cR:wc.cell? ⟨B,951,none⟩=some (A E rn):=z74 HRN.out hdc;have fR:=FnAt.frozen hdc 951;have e9:IntKind.i64.wrap (rn+1)=rn+1:=by rw[IntWalk.i64_left,z0s kO kO]
     go_upto_region 10 with fail
     clear cR fR;obtain⟨d3,HD3⟩: ∃d3:Dsk,Hid (({(d'.put k {d'.g k with ps:=(z08 T rn (d'.g k).ps sd0).2,evs:=rest})with ran:=rn+1}:Dsk)=d3):=⟨_,rfl⟩;have HL3:Hid ((d3.g k).left=lv):=by rw[<-HD3.out, <-HLV.out];show((d'.put k {d'.g k with ps:=(z08 T rn (d'.g k).ps sd0).2,evs:=rest}).g k).left=(d'.g k).left;rw[z3r,if_pos rfl]
     have hd9:z0f (wc.setCell ⟨B,951,none⟩ (A E (rn+1))) B d3:=by
      rw[<-HD3.out];exact FnAt.ext (FnAt.set hdc 951 _) fun j hj=>zPb (d'.put k {d'.g k with ps:=(z08 T rn (d'.g k).ps sd0).2,evs:=rest}) (rn+1) j hj
     have hk9:=z13 hkc 951 (A E (rn+1));have hg9:=(heap_setCell_other wc ⟨B,951,none⟩ g (A E (rn+1)) (show g≠B by omega)).trans hgr;have ho9:=World.ownsRow.kept hoc (z13 (z1b B wc) 951 (A E (rn+1))) (Or.inr fun e=>by have:=(World.ownsRow.lt hoc _ e).1;omega);clear hdc hkc hgr hoc;generalize wc.setCell ⟨B,951,none⟩ (A E (rn+1))=w9 at hd9 hk9 hg9 ho9⊢;have ea:IntKind.i64.wrap (so.steps+1)=so.steps+1:=by rw[IntWalk.i64_left,z0s kO kO]
     have eb:IntKind.i64.wrap (lv-(so.steps+1))=lv-(so.steps+1):=by rw[IntWalk.i64_left,z0s kO kO]
     have hK9:Blk w9 [(g,cT #[A E so.bf,A E so.num,(.slice qa so.out.length qc),A E so.steps] 99 (0,0)),(B,cT (Array.ofFn (n:=952) fun i=>Dsk.cell d3 i.1) 125 (0,0))] w9:=((Blk.nil (bF _ _)).cons hd9).cons hg9;refine z0n (C:=Blk w9 [(g,cT #[A E so.bf,A E so.num,(.slice qa so.out.length qc),A E so.steps] 99 (0,0)),(B,cT (Array.ofFn (n:=952) fun i=>Dsk.cell d3 i.1) 125 (0,0))]) (n0:=w9.heap.size) 10 [] [] kR kR (fun d _ _ _ _ h=>by cases d<;>exact h) (Blk.stable _ _) (fun w2 h=>h.1.size) hK9.drew trivial ?_;simp only[List.take_succ_cons,List.take_zero,List.drop_succ_cons,List.drop_zero,List.length_nil,Nat.reduceAdd]
     repeat(first
      |(refine z0k kI ?_;simp only[pS])
      |(refine z09 kI (v:=?_) ?_ ?_;rotate_left;(intro w2 hC;have hDk:z0f _ B d3:=(hC.2 _ (mcO _ mcS));have c1:World.cell? _ ⟨B,k*317+316,none⟩=some (A E lv):=(by have h:=z89 hDk hk;rw[HL3.out]at h;exact h);have c2:World.cell? _ ⟨g,3,none⟩=some (A E so.steps):=(cell_of_row _ _ 3 _ _ _ (hC.2 _ mcS)).trans rfl;go_simp;try with_reducible rfl);simp only[pS]))
     refine z0r ?_;intro w10 hC hB10;have hDk:z0f _ B d3:=(hC.2 _ (mcO _ mcS));have c1:World.cell? _ ⟨B,k*317+316,none⟩=some (A E lv):=(by have h:=z89 hDk hk;rw[HL3.out]at h;exact h);have c2:World.cell? _ ⟨g,3,none⟩=some (A E so.steps):=(cell_of_row _ _ 3 _ _ _ (hC.2 _ mcS)).trans rfl;have cf:=FnAt.frozen hDk (k*317+316);go_upto_region 11 with fail
     have hdE:z0f (w10.setCell ⟨B,k*317+316,none⟩ (A E (lv-(so.steps+1)))) B (evGo d' k T rest).1:=by
      have h:z0f (w10.setCell ⟨B,k*317+316,none⟩ (A E (lv-(so.steps+1)))) B (d3.put k {d3.g k with left:=(lv-(so.steps+1))}):=FnAt.ext (FnAt.set hDk (k*317+316) _) fun j hj=>zEq d3 _ hk j hj
      have e:d3.put k {d3.g k with left:=(lv-(so.steps+1))}=(evGo d' k T rest).1:=by
       rw[<-HD3.out];unfold evGo;rw[HRN.out,HSO.out,HLV.out];unfold Dsk.put;dsimp only;congr 1;funext i
       by_cases c:i=k
       ·rw[if_pos c,if_pos c,if_pos rfl]
       ·rw[if_neg c,if_neg c,if_neg c]
      rw[e]at h;exact h
     have hkE:=z13 (z1h hk9 hC.1) (k*317+316) (A E (lv-(so.steps+1)));have hgE:=(heap_setCell_other w10 ⟨B,k*317+316,none⟩ g (A E (lv-(so.steps+1))) (show g≠B by omega)).trans (hC.2 _ mcS);have hkx:Kept B w9 (w10.setCell ⟨B,k*317+316,none⟩ (A E (lv-(so.steps+1)))):=z13 (z0d hC.1 B) _ _;have hoE:=World.ownsRow.kept ho9 hkx (Or.inr fun e=>by have:=(World.ownsRow.lt ho9 _ e).1;omega);clear hC hDk c1 c2 cf hB10 hK9 hd9 hk9 hg9 ho9 hkx e9 ea eb;generalize w10.setCell ⟨B,k*317+316,none⟩ (A E (lv-(so.steps+1)))=w11 at hdE hkE hgE hoE⊢;have hDN:=HDN.out.kept hkE hlt;go_step
     (refine z00 rfl (u3) w11 kG ?_);simp only[pS]
     (refine z00 rfl (A E (k:Int)) w11 kG ?_);simp only[pS]
     refine wpList_load_row rfl 99 (.tmp 6) rfl g rfl 99 #[A E so.bf,A E so.num,.slice qa so.out.length qc,A E so.steps] (0,0) _ hgE Tryz.underlying99 rfl Tryz.infoSaid ?_;simp only[pS];refine wpList_buildTo rfl 101 #[(0,.tmp 66),(1,.tmp 67)] rfl (some 68) rfl #[A E (k:Int),A E so.bf,A E so.num,.slice qa so.out.length qc,A E so.steps] kR ?_;simp only[pS];obtain⟨i0,hi0,hz0,hz1,hz2⟩:=info_parts Tryz.infoDn;refine wpList_buildSlice rfl 96 101 1 #[(0,.tmp 68)] rfl #[A E (k:Int),A E so.bf,A E so.num,.slice qa so.out.length qc,A E so.steps] i0 _ Tryz.underlying96 hi0 hz0 (by rw[hz1];omega) (by rw[hz1];omega) (by rw[hz1];kernel_rfl) ?_;simp only[pS];have hDa:DnAt (w11.alloc (cT #[A E (k:Int),A E so.bf,A E so.num,.slice qa so.out.length qc,A E so.steps] 101)) w.heap.size u3 (ds0++ds):=⟨hDN.1.alloc _,fun x hx=>(hDN.2 x hx).alloc _⟩;refine wpList_append_own (w11.alloc (cT #[A E (k:Int),A E so.bf,A E so.num,.slice qa so.out.length qc,A E so.steps] 101)) rfl (.tmp 65) (.tmp 69) 96 rfl w.heap.size 101 i0 _ 5 56 Tryz.underlying96 hi0 hz0 hz1 hz2 rfl kD _ _ _ rfl hDa.1 ⟨w11.heap.size,0,none⟩ 1 1 #[A E (k:Int),A E so.bf,A E so.num,.slice qa so.out.length qc,A E so.steps].toList rfl rfl (z5j w11 #[A E (k:Int),A E so.bf,A E so.num,.slice qa so.out.length qc,A E so.steps] 101) (by intro u hu;simp only[List.mem_cons,List.not_mem_nil,or_false]at hu;rcases hu with rfl|rfl|rfl|rfl|rfl<;>rfl) (by rw[List.length_append];unfold maxLen;omega) (by rw[List.length_append];omega) (by have:=hkE.size;have:=hkp.size;simp;omega) ?_;intro v12 w12 ho12 hg12 _;simp only[pS];obtain⟨f',rfl⟩: ∃f',f=f'+1:=⟨f-1,by omega⟩;have hb12: ∀b,u3.ownBlock=some b->w.heap.size<=b:=fun b e=>(World.ownsRow.lt hDa.1 b e).1;have hdo11:DOk w11 B (evGo d' k T rest).1 (M+20*k+20-(f'+1:Nat)+1):=HDO.out.ev hk kO HE.out (by rw[HLV.out];exact hlv) hkE hdE
     have hdo12:DOk w12 B (evGo d' k T rest).1 (M+20*k+20-f'):=by
      have h:=(hdo11.later ((bF _ _).alloc (Nat.le_refl _) (cT #[A E (k:Int),A E so.bf,A E so.num,.slice qa so.out.length qc,A E so.steps] 101))).grown hg12 hb12 (hlow'.ev hk) hlt;rw[show M+20*(k:Int)+20-((f'+1:Nat):Int)+1=M+20*(k:Int)+20-(f':Int)by omega]at h;exact h
     have hkw:Kept B w (w11.alloc (cT #[A E (k:Int),A E so.bf,A E so.num,.slice qa so.out.length qc,A E so.steps] 101)):=z1l (z18 hkp hkE) _;have hk12:Kept B w w12:=⟨hg12.os.trans hkw.os,hg12.tape.trans hkw.tape,hg12.output.trans hkw.output,Nat.le_trans hkw.size hg12.size,fun b hb hne=>(hg12.block b (Nat.lt_of_lt_of_le hb hkw.size) fun e=>by have:=hb12 b e.symm;omega).trans (hkw.block b hb hne)⟩
     have HIX:Hid (InSt w B k dj (M+20*k) ds0 v12 w12 f'):=by
      refine⟨(evGo d' k T rest).1,ds++[⟨k,so,.slice qa so.out.length qc⟩],hdo12,?_,?_,hk12,⟨?_,?_⟩,?_,?_,hlow'.ev hk⟩
      ·show(((d'.put k _).g k).evs).length<=f'
       rw[z3r,if_pos rfl];show rest.length<=f';rw[HMm.out];omega
      ·rw[HGO.out,z2h,HE.out]
       dsimp only;rw[if_pos (by rw[HLV.out];exact hlv),List.map_append];have e:(evGo d' k T rest).2=so:=by unfold evGo;rw[HRN.out,HSO.out]
       rw[e];rfl
      ·rw[<-List.append_assoc,zM4,List.length_append];exact ho12
      ·intro x hx
       rw[<-List.append_assoc]at hx;rcases List.mem_append.1 hx with hx|hx
       ·exact World.ownsRow.kept (hDa.2 x hx) hg12 (zKl (hDa.2 x hx) hDa.1 kD)
       ·rw[List.mem_singleton.1 hx]
        exact World.ownsRow.kept ((zNv hoE hkp.size).alloc _) hg12 (zKl ((zNv hoE hkp.size).alloc _) hDa.1 kD)
      ·intro x hx
       rcases List.mem_append.1 hx with hx|hx
       ·exact hks x hx
       ·rw[List.mem_singleton.1 hx]
      ·rw[List.length_append];show ds.length+1+f'<=20;omega
     have c12:=zHb hdo12.at_ hk
     have HC12:Hid (w12.cell? ⟨B,k*317+314,none⟩=some (A E (m:Int))):=by
      have e:(((evGo d' k T rest).1.g k).evs)=rest:=by show(((d'.put k _).g k).evs)=rest;rw[z3r,if_pos rfl]
      rw[e,HMm.out]at c12;exact c12
     clear c12 hdo12 hdo11 hk12 hkw hDa hDN hoE hgE hkE hdE ho12 hg12;go_wp2_with fail;go_roundw
     case rel=>exact⟨f',by omega,HIX.out⟩
     case measure=>rw[HC12.out,HCW.out];simp[intOf]
  ·obtain rfl:k=3:=by omega
   obtain⟨d',ds,hd',hdo,hkp,hdn,hmap,hlen, -, -⟩:=H.out.ex;go_wp2_with fail;go_ret;exact⟨u3,ds,rfl,hkp,by rw[hd'];exact hdo,hdn,hmap,hlen⟩
end Go.Proofs.YtkdflpplamebkaaGreatDoor
