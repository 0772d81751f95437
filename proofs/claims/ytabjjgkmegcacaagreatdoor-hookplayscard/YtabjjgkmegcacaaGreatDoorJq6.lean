/-
A part of the proof of HookPlays; its card says what is proved.
-/
import Derived.Test.YtabjjgkmegcacaaGreatDoorJq5
import Derived.Great.BuildSlice
set_option maxHeartbeats 40000000
open Go.Value renaming int → A
open Go.IntKind renaming i64 → D
open Go.RowKit.Below renaming alloc → bA, setCell → bS, drew → bD, refl → bF
set_option maxRecDepth 1000000
set_option linter.defProp false
set_option linter.unusedVariables false
set_option linter.unusedSimpArgs false
open Go.Ending renaming returned → rT
open Go.Value renaming pointer → pT
open Go.Obj renaming cells → cT
open Go.Proofs.Tryz renaming prog → tP
open List renaming take_succ_cons → lV, take_zero → lX, drop_succ_cons → lY, drop_zero → lZ, length_nil → lJ, length_cons → lQ
namespace Go.Proofs.YtabjjgkmegcacaaGreatDoor
open Go.ChangeShapes Go.WideShapes Go.ChangeAt Go.RowKit
section
attribute [local simp] z0p z0j z04
def z3o(f:Nat->Int×Int):Nat->List Value
 |0=>[]
 |k+1=>z3o f k++[A D (f k).1,A D (f k).2]
theorem zBn(f:Nat->Int×Int): ∀k,(z3o f k).length=k*2
 |0=>rfl
 |k+1=>by rw[z3o,List.length_append,zBn f k];simp;omega
theorem zDi(f:Nat->Int×Int): ∀k i,i<k->(z3o f k)[i*2]?=some (A D (f i).1)/\(z3o f k)[i*2+1]?=some (A D (f i).2)
 |0,i,h=>absurd h kO
 |k+1,i,h=>by
  have hl:=zBn f k
  by_cases e:i=k
  ·subst e
   constructor
   ·rw[z3o,List.getElem?_append_right kO,hl];simp
   ·rw[z3o,List.getElem?_append_right kO,hl,show i*2+1-i*2=1 by omega];rfl
  ·obtain⟨h1,h2⟩:=zDi f k i kO
   constructor
   ·rw[z3o,List.getElem?_append_left kO];exact h1
   ·rw[z3o,List.getElem?_append_left kO];exact h2
theorem zCx{w:World}{base k:Nat}{v:Value}{f:Nat->Int×Int}(h:w.ownsRow base 113 2 v k (z3o f k))(hk:k<=1000000):zR 50 #[v] w (.agg #[A D (z1d f k).1,A D (z1d f k).2]):=by
 rcases Nat.eq_zero_or_pos k with h0|h0
 ·subst h0
  rcases h.2 with⟨hv,_⟩|⟨g,cap,cur,hv,_⟩
  ·rw[hv];exact z6b none 0 w
  ·rw[hv];exact z6b _ cap w
 obtain⟨g,cap,hv⟩: ∃g cap,v= .slice (some ⟨g,0,none⟩) k cap:=by
  rcases h.2 with⟨_,hn⟩|⟨g,cap,cur,hv,_⟩
  ·omega
  ·exact⟨g,cap,hv⟩
 subst hv;refine zAz g k cap f h0 hk w ((h.lt g rfl).2) fun i hi=>?_;obtain⟨a1,a2⟩:=zDi f k i hi;exact⟨(h.cellAt (i*2) kO).trans a1,(h.cellAt (i*2+1) kO).trans a2⟩
theorem Blk.grown{w0 w w':World}{F:List (Nat×Obj)}{row:Option Nat}{b:Nat}(h:Blk w0 F w)(hg:w.grownBy w' row)(hr: ∀k,row=some k->b<=k)(h0:w0.heap.size<=b)(hF: ∀x,x∈F->x.1<b):Blk w0 F w':=
 ⟨h.1.grown hg h.1.size (fun k hk=>Nat.le_trans h0 (hr k hk)),fun x hx=>(hg.block x.1 (Array.getElem?_eq_some_iff.1 (h.2 x hx)).1 (fun e=>by have:=hr x.1 e.symm;have:=hF x hx;omega)).trans (h.2 x hx)⟩
theorem zLo{w:World}{x y:Value}{e:TypeId}{b:Nat}(hb:b=w.heap.size): ∀(j:Nat) u,[x,y][j]?=some u->(w.alloc (cT #[x,y] e)).cell? ((⟨b,0,none⟩:Addr).add j)=some u:=by
 subst hb;intro j u hj;match j,hj with
 |0,hj=>simp at hj;subst hj;simp[Addr.add]
 |1,hj=>simp at hj;subst hj;simp[Addr.add]
theorem Tryz.infoB:(Tryz.prog.info? 113).map (fun i=>(i.zero,i.size,i.bytes))=some (some (.agg #[A D 0,A D 0]),2,16):=kR
def z1v(y:Way)(t j:Nat):Int:=z0s (y.slot (t+j))
def bdAt(y:Way)(t j:Nat):Int×Int:=((y.slot (t+j)).l,(y.slot (t+j)).h)
theorem Blk.swap4{w0 w:World}{a b c d:Nat×Obj}(h:Blk w0 [a,b,c] w)(hd:w.heap[d.1]?=some d.2):Blk w0 [a,b,c,d] w:=
 ⟨h.1,fun x hx=>by
  simp only[List.mem_cons,List.not_mem_nil,or_false]at hx;rcases hx with rfl|rfl|rfl|rfl
  ·exact h.2 _ kS
  ·exact h.2 _ kS
  ·exact h.2 _ kS
  ·exact hd⟩
theorem Blk.more4{w0 w:World}{a b c d:Nat×Obj}(h:Blk w0 [a,b,c,d] w):Blk w0 [a,b,c] w:=
 h.more fun x hx=>by simp only[List.mem_cons,List.not_mem_nil,or_false]at hx⊢;rcases hx with rfl|rfl|rfl<;>simp
theorem z68{w w1:World}{X:Obj}{b:Nat}{e:TypeId}{z:Nat}{v:Value}{n:Nat}{xs:List Value}(h:w.ownsRow b e z v n xs)(hb:Below (w.alloc X).heap.size (w.alloc X) w1):w1.ownsRow b e z v n xs:=
 (h.alloc X).kept (w':=w1) (row:=none) ⟨hb.os,hb.tape,hb.output,hb.size,fun k hk _=>hb.block k hk⟩ (by cases v.ownBlock<;>simp)
theorem zH3(B t:Nat)(wl p:Int)(y:Way)(htm:t<16)(e1:IntKind.i64.wrap (wl+16)=(t:Int)):(∀(x0:((y.slot t).k !=0)=true)(w:World)(hW:z02 w B p y),zR 118 #[pT (some ⟨B,0,none⟩),.agg #[A D wl,A D wl]] w (.tuple #[.agg #[A D (y.slot t).k,A D (y.slot t).l,A D (y.slot t).h],A D 0]))/\(∀(x0:((y.slot t).k !=0)=false)(w:World)(hW:z02 w B p y),Calls tP 118 #[pT (some ⟨B,0,none⟩),.agg #[A D wl,A D wl]] w fun e w'=>(∃k,k<1/\(∀j,j<k->z1v y t j=0)/\z1v y t k≠0/\e= rT (.tuple #[.agg #[A D 0,A D 0,A D 0],A D (z1v y t k)])/\Below w.heap.size w w')\/((∀j,j<1->z1v y t j=0)/\e= rT (.tuple #[.agg #[A D 1,A D (z1d (bdAt y t) 1).1,A D (z1d (bdAt y t) 1).2],A D 0])/\Below w.heap.size w w')):=by
 refine⟨?_,?_⟩
 all_goals
  intro x0 w hW;have hK0:Blk w [(w.heap.size,cT #[A D wl,A D wl] 113 (0,0)),(w.heap.size+1,cT #[A D 0,A D 0,A D 0] 186 (0,0)),(B,cT (z03 p y) 190 (0,0))] _:=(((Blk.nil (((bF _ _).alloc (Nat.le_refl _) _).alloc kS _)).cons ((hW.alloc _).alloc _)).cons (heap_alloc2_new w (cT #[A D wl,A D wl] 113) (cT #[A D 0,A D 0,A D 0] 186))).cons (by rw[Below.heap_alloc _ _ _ kS];exact heap_alloc_new _ _);have hB:=hW.lt;have ht0:(0:Int)<=(t:Int):=kO;have hm0:(t:Int)<=(t:Int)+1:=kO;have hm1:(t:Int)+1<=16:=kO;have e3:IntKind.i64.wrap ((t:Int)+1)=(t:Int)+1:=by rw[IntWalk.i64_left];exact z08 kO kO
  have ht:t<16:=kO
 all_goals
  go_enter Tryz.func118,Tryz.ntmps118;go_wp2_with fail;refine z0o (C:=Blk w [(w.heap.size,cT #[A D wl,A D wl] 113 (0,0)),(w.heap.size+1,cT #[A D 0,A D 0,A D 0] 186 (0,0)),(B,cT (z03 p y) 190 (0,0))]) (n0:=w.heap.size) 11 [] [] kR kR (fun d _ _ _ _ h=>by cases d<;>exact h) (Blk.stable _ _) (Blk.room0 _ _) hK0.drew trivial ?_;simp only[lV,lX,lY,lZ,lJ,Nat.reduceAdd]
  repeat(first
   |(refine z0q kI ?_;simp only[pS])
   |(refine z0c kI (v:=?_) ?_ ?_;rotate_left;(intro w2 hC;obtain⟨s0,s1,sf0,sf1,slt⟩:=row2 (hC.2 _ mcS);obtain⟨z0,z1,z2,zf0,zf1,zf2,zlt⟩:=row3 (hC.2 _ (mcO _ mcS));have yW:z02 _ B _ _:=(hC.2 _ (mcO _ (mcO _ mcS)));have ylt:=yW.lt;go_simp;try with_reducible rfl);simp only[pS]))
  refine z11 ?_;intro w3 hC hB3;obtain⟨s0,s1,sf0,sf1,slt⟩:=row2 (hC.2 _ mcS);obtain⟨z0,z1,z2,zf0,zf1,zf2,zlt⟩:=row3 (hC.2 _ (mcO _ mcS));have yW:z02 _ B _ _:=(hC.2 _ (mcO _ (mcO _ mcS)));have ylt:=yW.lt;go_wp2_with fail;have hK3:=hC;clear s0 s1 sf0 sf1 slt z0 z1 z2 zf0 zf1 zf2 zlt yW ylt hC hB3 hK0;refine z0o (C:=Blk w [(w.heap.size,cT #[A D wl,A D wl] 113 (0,0)),(w.heap.size+1,cT #[A D 0,A D 0,A D 0] 186 (0,0)),(B,cT (z03 p y) 190 (0,0))]) (n0:=w.heap.size) 11 [] [] kR kR (fun d _ _ _ _ h=>by cases d<;>exact h) (Blk.stable _ _) (Blk.room0 _ _) hK3.drew trivial ?_;simp only[lV,lX,lY,lZ,lJ,Nat.reduceAdd]
  repeat(first
   |(refine z0q kI ?_;simp only[pS])
   |(refine z0c kI (v:=?_) ?_ ?_;rotate_left;(intro w2 hC;obtain⟨s0,s1,sf0,sf1,slt⟩:=row2 (hC.2 _ mcS);obtain⟨z0,z1,z2,zf0,zf1,zf2,zlt⟩:=row3 (hC.2 _ (mcO _ mcS));have yW:z02 _ B _ _:=(hC.2 _ (mcO _ (mcO _ mcS)));have ylt:=yW.lt;obtain⟨i0,i1,i2⟩:=yW.slot ht;go_simp;try with_reducible rfl);simp only[pS])
   |(refine z18 kI ?_;apply Exists.intro;refine⟨fun w2 hC=>?_,?_⟩;(obtain⟨s0,s1,sf0,sf1,slt⟩:=row2 (hC.2 _ mcS);obtain⟨z0,z1,z2,zf0,zf1,zf2,zlt⟩:=row3 (hC.2 _ (mcO _ mcS));have yW:z02 _ B _ _:=(hC.2 _ (mcO _ (mcO _ mcS)));have ylt:=yW.lt;obtain⟨i0,i1,i2⟩:=yW.slot ht;go_simp;apply z1k;first|(go_at_call 86;exact z4f _ w2));simp only[pS]))
  refine z11 ?_;intro w4 hC hB4;obtain⟨s0,s1,sf0,sf1,slt⟩:=row2 (hC.2 _ mcS);obtain⟨z0,z1,z2,zf0,zf1,zf2,zlt⟩:=row3 (hC.2 _ (mcO _ mcS));have yW:z02 _ B _ _:=(hC.2 _ (mcO _ (mcO _ mcS)));have ylt:=yW.lt;obtain⟨i0,i1,i2⟩:=yW.slot ht;have hK4:=hC;go_wp2_with fail
 ·have hbw:=hC.1
  exact bodyPost_ret (v:= .tuple #[.agg #[A D (y.slot t).k,A D (y.slot t).l,A D (y.slot t).h],A D 0]) (by simp[results,Tryz.results118,go_sem, *]) rfl ⟨rfl,kW⟩
 ·obtain⟨j0,hj,hy0,hy1,hy2⟩:=info_parts Tryz.infoB
  clear s0 s1 sf0 sf1 slt z0 z1 z2 zf0 zf1 zf2 zlt yW ylt i0 i1 i2 hC hB4 hK3;have HK4:Hid (Blk w [(w.heap.size,cT #[A D wl,A D wl] 113 (0,0)),(w.heap.size+1,cT #[A D 0,A D 0,A D 0] 186 (0,0)),(B,cT (z03 p y) 190 (0,0))] w4):=hK4;clear hK4;go_loopw [7,39] (fun v i wr=> ∃k:Nat,i=A D k/\k<=1/\Hid (Blk w [(w.heap.size,cT #[A D wl,A D wl] 113 (0,0)),(w.heap.size+1,cT #[A D 0,A D 0,A D 0] 186 (0,0)),(B,cT (z03 p y) 190 (0,0))] wr)/\Hid (wr.ownsRow (w.heap.size+1+1) 113 2 v k (z3o (bdAt y t) k))/\Hid (∀j,j<k->z1v y t j=0)) (fun _ i _=>1-(intOf i).toNat)
  case atStart=>exact⟨0,rfl,by omega,HK4.out,World.ownsRow_nil _ _ _ _,fun j hj=>absurd hj kO⟩
  case round=>
   obtain⟨k,rfl,hk,H,HO,HZ⟩:=hrel;have hK:=H.out;clear HK4;have hk0:(0:Int)<=(k:Int):=kO
   by_cases hlt:k<1
   ·have hlt':(k:Int)<(1:Int):=kO
    obtain⟨s0,s1,sf0,sf1,slt⟩:=row2 (hK.2 _ mcS);obtain⟨z0,z1,z2,zf0,zf1,zf2,zlt⟩:=row3 (hK.2 _ (mcO _ mcS));have yW:z02 _ B _ _:=(hK.2 _ (mcO _ (mcO _ mcS)));have ylt:=yW.lt;obtain⟨i0,i1,i2⟩:=yW.slot (d:=t+k) kO;have e5:34+(t+k)*3=34+t*3+k*3:=kO;rw[e5]at i0 i1 i2;clear e5
    by_cases hwt:z1v y t k=0
    ·have HW0:Hid (z0s ⟨(y.slot (t+k)).k,(y.slot (t+k)).l,(y.slot (t+k)).h⟩=0):=hwt
     clear hwt
     go_wp2_with(first
      |(go_at_call 90;refine(z3j _ _ _ _).mono ?_;rintro e w5 ⟨rfl,hb5⟩;rw[HW0.out];have hK5:Blk w [(w.heap.size,cT #[A D wl,A D wl] 113 (0,0)),(w.heap.size+1,cT #[A D 0,A D 0,A D 0] 186 (0,0)),(B,cT (z03 p y) 190 (0,0)),(wr.heap.size,cT #[A D (y.slot (t+k)).k,A D (y.slot (t+k)).l,A D (y.slot (t+k)).h] 186 (0,0))] w5:=(((hK.later ((bF _ _).alloc (Nat.le_refl _) _)).swap4 (heap_alloc_new wr (cT #[A D (y.slot (t+k)).k,A D (y.slot (t+k)).l,A D (y.slot (t+k)).h] 186))).later hb5);have hO5:=z68 HO.out hb5;clear s0 s1 sf0 sf1 slt z0 z1 z2 zf0 zf1 zf2 zlt yW ylt;clear i0 i1 i2;obtain⟨s0,s1,sf0,sf1,slt⟩:=row2 (hK5.2 _ mcS);obtain⟨z0,z1,z2,zf0,zf1,zf2,zlt⟩:=row3 (hK5.2 _ (mcO _ mcS));have yW:z02 _ B _ _:=(hK5.2 _ (mcO _ (mcO _ mcS)));have ylt:=yW.lt;obtain⟨x0,x1,x2,xf0,xf1,xf2,xlt⟩:=row3 (hK5.2 _ (mcO _ (mcO _ (mcO _ mcS)))))
      |(at_builtin;refine wpList_append_own _ rfl (.tmp 49) (.tmp 52) 153 rfl (w.heap.size+1+1) 113 j0 (.agg #[A D 0,A D 0]) 2 16 Tryz.underlying153 hj hy0 hy1 hy2 rfl kD _ k (z3o (bdAt y t) k) rfl (hO5.alloc _) ⟨w5.heap.size,0,none⟩ 1 1 [A D (y.slot (t+k)).l,A D (y.slot (t+k)).h] rfl rfl (zLo rfl) (by intro u hu;simp at hu;rcases hu with rfl|rfl<;>rfl) (by unfold maxLen;omega) kO kZ ?_;intro v6 w6 hown6 hgrow6 _)
      |fail)
     go_roundw
     case rel=>
      refine⟨k+1,by go_num,by omega,?_,hown6,?_⟩
      ·exact((hK5.more4.later ((bF _ _).alloc (Nat.le_refl _) _)).grown hgrow6 (b:=w.heap.size+1+1) (fun j hj=>(hO5.lt j hj).1) kO (by intro x hx;simp only[List.mem_cons,List.not_mem_nil,or_false]at hx;rcases hx with rfl|rfl|rfl<;>(show _<_;omega)))
      ·intro j hj
       by_cases e:j=k
       ·rw[e];exact HW0.out
       ·exact HZ.out j kO
     case measure=>simp[intOf];omega
    ·have hwb:(z1v y t k !=0)=true:=by simpa using hwt
     have HWT:Hid (z1v y t k≠0):=hwt;obtain⟨E,hE⟩: ∃E,z1v y t k=E:=⟨_,rfl⟩;have HW0:Hid (z0s ⟨(y.slot (t+k)).k,(y.slot (t+k)).l,(y.slot (t+k)).h⟩=E):=hE;have HE:Hid (z1v y t k=E):=hE;rw[hE]at hwb;clear hwt hE
     go_wp2_with(first
      |(go_at_call 90;refine(z3j _ _ _ _).mono ?_;rintro e w5 ⟨rfl,hb5⟩;rw[HW0.out];have hK5:Blk w [(w.heap.size,cT #[A D wl,A D wl] 113 (0,0)),(w.heap.size+1,cT #[A D 0,A D 0,A D 0] 186 (0,0)),(B,cT (z03 p y) 190 (0,0)),(wr.heap.size,cT #[A D (y.slot (t+k)).k,A D (y.slot (t+k)).l,A D (y.slot (t+k)).h] 186 (0,0))] w5:=(((hK.later ((bF _ _).alloc (Nat.le_refl _) _)).swap4 (heap_alloc_new wr (cT #[A D (y.slot (t+k)).k,A D (y.slot (t+k)).l,A D (y.slot (t+k)).h] 186))).later hb5);have hO5:=z68 HO.out hb5;clear s0 s1 sf0 sf1 slt z0 z1 z2 zf0 zf1 zf2 zlt yW ylt;clear i0 i1 i2;obtain⟨s0,s1,sf0,sf1,slt⟩:=row2 (hK5.2 _ mcS);obtain⟨z0,z1,z2,zf0,zf1,zf2,zlt⟩:=row3 (hK5.2 _ (mcO _ mcS));have yW:z02 _ B _ _:=(hK5.2 _ (mcO _ (mcO _ mcS)));have ylt:=yW.lt;obtain⟨x0,x1,x2,xf0,xf1,xf2,xlt⟩:=row3 (hK5.2 _ (mcO _ (mcO _ (mcO _ mcS)))))
      |fail)
     have hbw:=hK5.1;exact bodyPost_ret (v:= .tuple #[.agg #[A D 0,A D 0,A D 0],A D E]) (by simp[results,Tryz.results118,go_sem, *]) rfl (Or.inl ⟨k,hlt,HZ.out,HWT.out,by rw[HE.out],kW⟩)
   ·obtain rfl:k=1:=by omega
    obtain⟨s0,s1,sf0,sf1,slt⟩:=row2 (hK.2 _ mcS);obtain⟨z0,z1,z2,zf0,zf1,zf2,zlt⟩:=row3 (hK.2 _ (mcO _ mcS));have yW:z02 _ B _ _:=(hK.2 _ (mcO _ (mcO _ mcS)));have ylt:=yW.lt
    go_wp2_with(first
     |(go_at_call 50;refine(zCx HO.out kO).mono ?_;rintro e w5 ⟨rfl,hb5⟩;have hK5:=hK.later hb5)
     |(go_at_call 116;refine(z1s _ _ _).mono ?_;rintro e w6 ⟨rfl,hb6⟩;simp only[Kno.v,z10];have hK6:=hK5.later hb6;have hbw:=hK6.1;clear s0 s1 sf0 sf1 slt z0 z1 z2 zf0 zf1 zf2 zlt yW ylt;obtain⟨s0,s1,sf0,sf1,slt⟩:=row2 (hK6.2 _ mcS);obtain⟨z0,z1,z2,zf0,zf1,zf2,zlt⟩:=row3 (hK6.2 _ (mcO _ mcS));have yW:z02 _ B _ _:=(hK6.2 _ (mcO _ (mcO _ mcS)));have ylt:=yW.lt)
     |fail)
    exact bodyPost_ret (v:= .tuple #[.agg #[A D 1,A D (z1d (bdAt y t) 1).1,A D (z1d (bdAt y t) 1).2],A D 0]) (by simp[results,Tryz.results118,go_sem, *]) rfl (Or.inr ⟨HZ.out 0 kO,rfl,kW⟩)
def zP9:=fun B t wl p y htm e1=>(@zH3 B t wl p y htm e1).1
def zMd:=fun B t wl p y htm e1=>(@zH3 B t wl p y htm e1).2
theorem zMc(B t m:Nat)(wl wh p:Int)(y:Way)(htm:t+m<16)(e1:IntKind.i64.wrap (wl+16)=(t:Int))(e2:IntKind.i64.wrap (wh+16)=(t:Int)+(m:Int))(hne: ¬wh=wl)(w:World)(hW:z02 w B p y):
  Calls tP 118 #[pT (some ⟨B,0,none⟩),.agg #[A D wl,A D wh]] w fun e w'=>(∃k,k<(m+1)/\(∀j,j<k->z1v y t j=0)/\z1v y t k≠0/\e= rT (.tuple #[.agg #[A D 0,A D 0,A D 0],A D (z1v y t k)])/\Below w.heap.size w w')\/((∀j,j<(m+1)->z1v y t j=0)/\e= rT (.tuple #[.agg #[A D 1,A D (z1d (bdAt y t) (m+1)).1,A D (z1d (bdAt y t) (m+1)).2],A D 0])/\Below w.heap.size w w'):=by
 have hK0:Blk w [(w.heap.size,cT #[A D wl,A D wh] 113 (0,0)),(w.heap.size+1,cT #[A D 0,A D 0,A D 0] 186 (0,0)),(B,cT (z03 p y) 190 (0,0))] _:=(((Blk.nil (((bF _ _).alloc (Nat.le_refl _) _).alloc kS _)).cons ((hW.alloc _).alloc _)).cons (heap_alloc2_new w (cT #[A D wl,A D wh] 113) (cT #[A D 0,A D 0,A D 0] 186))).cons (by rw[Below.heap_alloc _ _ _ kS];exact heap_alloc_new _ _);have hB:=hW.lt;have ht0:(0:Int)<=(t:Int):=kO;have hm0:(t:Int)<=(t:Int)+(m:Int)+1:=kO;have hm1:(t:Int)+(m:Int)+1<=16:=kO;have e3:IntKind.i64.wrap ((t:Int)+(m:Int)+1)=(t:Int)+(m:Int)+1:=by rw[IntWalk.i64_left];exact z08 kO kO
 have ht:t<16:=kO;go_enter Tryz.func118,Tryz.ntmps118;go_wp2_with fail;refine z0o (C:=Blk w [(w.heap.size,cT #[A D wl,A D wh] 113 (0,0)),(w.heap.size+1,cT #[A D 0,A D 0,A D 0] 186 (0,0)),(B,cT (z03 p y) 190 (0,0))]) (n0:=w.heap.size) 11 [] [] kR kR (fun d _ _ _ _ h=>by cases d<;>exact h) (Blk.stable _ _) (Blk.room0 _ _) hK0.drew trivial ?_;simp only[lV,lX,lY,lZ,lJ,Nat.reduceAdd]
 repeat(first
  |(refine z0q kI ?_;simp only[pS])
  |(refine z0c kI (v:=?_) ?_ ?_;rotate_left;(intro w2 hC;obtain⟨s0,s1,sf0,sf1,slt⟩:=row2 (hC.2 _ mcS);obtain⟨z0,z1,z2,zf0,zf1,zf2,zlt⟩:=row3 (hC.2 _ (mcO _ mcS));have yW:z02 _ B _ _:=(hC.2 _ (mcO _ (mcO _ mcS)));have ylt:=yW.lt;go_simp;try with_reducible rfl);simp only[pS]))
 refine z11 ?_;intro w3 hC hB3;obtain⟨s0,s1,sf0,sf1,slt⟩:=row2 (hC.2 _ mcS);obtain⟨z0,z1,z2,zf0,zf1,zf2,zlt⟩:=row3 (hC.2 _ (mcO _ mcS));have yW:z02 _ B _ _:=(hC.2 _ (mcO _ (mcO _ mcS)));have ylt:=yW.lt;go_wp2_with fail;have e4:((t:Int)+(m:Int)+1).toNat-t=m+1:=kO;rw[e4];clear e4;have hK3:=hC;clear s0 s1 sf0 sf1 slt z0 z1 z2 zf0 zf1 zf2 zlt yW ylt hC hB3 hK0;refine z0o (C:=Blk w [(w.heap.size,cT #[A D wl,A D wh] 113 (0,0)),(w.heap.size+1,cT #[A D 0,A D 0,A D 0] 186 (0,0)),(B,cT (z03 p y) 190 (0,0))]) (n0:=w.heap.size) 11 [] [] kR kR (fun d _ _ _ _ h=>by cases d<;>exact h) (Blk.stable _ _) (Blk.room0 _ _) hK3.drew trivial ?_;simp only[lV,lX,lY,lZ,lJ,Nat.reduceAdd]
 repeat(first
  |(refine z0q kI ?_;simp only[pS])
  |(refine z0c kI (v:=?_) ?_ ?_;rotate_left;(intro w2 hC;obtain⟨s0,s1,sf0,sf1,slt⟩:=row2 (hC.2 _ mcS);obtain⟨z0,z1,z2,zf0,zf1,zf2,zlt⟩:=row3 (hC.2 _ (mcO _ mcS));have yW:z02 _ B _ _:=(hC.2 _ (mcO _ (mcO _ mcS)));have ylt:=yW.lt;obtain⟨i0,i1,i2⟩:=yW.slot ht;go_simp;try with_reducible rfl);simp only[pS])
  |(refine z18 kI ?_;apply Exists.intro;refine⟨fun w2 hC=>?_,?_⟩;(obtain⟨s0,s1,sf0,sf1,slt⟩:=row2 (hC.2 _ mcS);obtain⟨z0,z1,z2,zf0,zf1,zf2,zlt⟩:=row3 (hC.2 _ (mcO _ mcS));have yW:z02 _ B _ _:=(hC.2 _ (mcO _ (mcO _ mcS)));have ylt:=yW.lt;obtain⟨i0,i1,i2⟩:=yW.slot ht;go_simp;apply z1k;first|(go_at_call 86;exact z4f _ w2));simp only[pS]))
 refine z11 ?_;intro w4 hC hB4;obtain⟨s0,s1,sf0,sf1,slt⟩:=row2 (hC.2 _ mcS);obtain⟨z0,z1,z2,zf0,zf1,zf2,zlt⟩:=row3 (hC.2 _ (mcO _ mcS));have yW:z02 _ B _ _:=(hC.2 _ (mcO _ (mcO _ mcS)));have ylt:=yW.lt;obtain⟨i0,i1,i2⟩:=yW.slot ht;have hK4:=hC;go_wp2_with fail;obtain⟨j0,hj,hy0,hy1,hy2⟩:=info_parts Tryz.infoB;clear s0 s1 sf0 sf1 slt z0 z1 z2 zf0 zf1 zf2 zlt yW ylt i0 i1 i2 hC hB4 hK3;have HK4:Hid (Blk w [(w.heap.size,cT #[A D wl,A D wh] 113 (0,0)),(w.heap.size+1,cT #[A D 0,A D 0,A D 0] 186 (0,0)),(B,cT (z03 p y) 190 (0,0))] w4):=hK4;clear hK4;go_loopw [7,39] (fun v i wr=> ∃k:Nat,i=A D k/\k<=(m+1)/\Hid (Blk w [(w.heap.size,cT #[A D wl,A D wh] 113 (0,0)),(w.heap.size+1,cT #[A D 0,A D 0,A D 0] 186 (0,0)),(B,cT (z03 p y) 190 (0,0))] wr)/\Hid (wr.ownsRow (w.heap.size+1+1) 113 2 v k (z3o (bdAt y t) k))/\Hid (∀j,j<k->z1v y t j=0)) (fun _ i _=>(m+1)-(intOf i).toNat)
 case atStart=>exact⟨0,rfl,by omega,HK4.out,World.ownsRow_nil _ _ _ _,fun j hj=>absurd hj kO⟩
 case round=>
  obtain⟨k,rfl,hk,H,HO,HZ⟩:=hrel;have hK:=H.out;clear HK4;have hk0:(0:Int)<=(k:Int):=kO
  by_cases hlt:k<(m+1)
  ·have hlt':(k:Int)<((m:Int)+1:Int):=kO
   obtain⟨s0,s1,sf0,sf1,slt⟩:=row2 (hK.2 _ mcS);obtain⟨z0,z1,z2,zf0,zf1,zf2,zlt⟩:=row3 (hK.2 _ (mcO _ mcS));have yW:z02 _ B _ _:=(hK.2 _ (mcO _ (mcO _ mcS)));have ylt:=yW.lt;obtain⟨i0,i1,i2⟩:=yW.slot (d:=t+k) kO;have e5:34+(t+k)*3=34+t*3+k*3:=kO;rw[e5]at i0 i1 i2;clear e5
   by_cases hwt:z1v y t k=0
   ·have HW0:Hid (z0s ⟨(y.slot (t+k)).k,(y.slot (t+k)).l,(y.slot (t+k)).h⟩=0):=hwt
    clear hwt
    go_wp2_with(first
     |(go_at_call 90;refine(z3j _ _ _ _).mono ?_;rintro e w5 ⟨rfl,hb5⟩;rw[HW0.out];have hK5:Blk w [(w.heap.size,cT #[A D wl,A D wh] 113 (0,0)),(w.heap.size+1,cT #[A D 0,A D 0,A D 0] 186 (0,0)),(B,cT (z03 p y) 190 (0,0)),(wr.heap.size,cT #[A D (y.slot (t+k)).k,A D (y.slot (t+k)).l,A D (y.slot (t+k)).h] 186 (0,0))] w5:=(((hK.later ((bF _ _).alloc (Nat.le_refl _) _)).swap4 (heap_alloc_new wr (cT #[A D (y.slot (t+k)).k,A D (y.slot (t+k)).l,A D (y.slot (t+k)).h] 186))).later hb5);have hO5:=z68 HO.out hb5;clear s0 s1 sf0 sf1 slt z0 z1 z2 zf0 zf1 zf2 zlt yW ylt;clear i0 i1 i2;obtain⟨s0,s1,sf0,sf1,slt⟩:=row2 (hK5.2 _ mcS);obtain⟨z0,z1,z2,zf0,zf1,zf2,zlt⟩:=row3 (hK5.2 _ (mcO _ mcS));have yW:z02 _ B _ _:=(hK5.2 _ (mcO _ (mcO _ mcS)));have ylt:=yW.lt;obtain⟨x0,x1,x2,xf0,xf1,xf2,xlt⟩:=row3 (hK5.2 _ (mcO _ (mcO _ (mcO _ mcS)))))
     |(at_builtin;refine wpList_append_own _ rfl (.tmp 49) (.tmp 52) 153 rfl (w.heap.size+1+1) 113 j0 (.agg #[A D 0,A D 0]) 2 16 Tryz.underlying153 hj hy0 hy1 hy2 rfl kD _ k (z3o (bdAt y t) k) rfl (hO5.alloc _) ⟨w5.heap.size,0,none⟩ 1 1 [A D (y.slot (t+k)).l,A D (y.slot (t+k)).h] rfl rfl (zLo rfl) (by intro u hu;simp at hu;rcases hu with rfl|rfl<;>rfl) (by unfold maxLen;omega) kO kZ ?_;intro v6 w6 hown6 hgrow6 _)
     |fail)
    go_roundw
    case rel=>
     refine⟨k+1,by go_num,by omega,?_,hown6,?_⟩
     ·exact((hK5.more4.later ((bF _ _).alloc (Nat.le_refl _) _)).grown hgrow6 (b:=w.heap.size+1+1) (fun j hj=>(hO5.lt j hj).1) kO (by intro x hx;simp only[List.mem_cons,List.not_mem_nil,or_false]at hx;rcases hx with rfl|rfl|rfl<;>(show _<_;omega)))
     ·intro j hj
      by_cases e:j=k
      ·rw[e];exact HW0.out
      ·exact HZ.out j kO
    case measure=>simp[intOf];omega
   ·have hwb:(z1v y t k !=0)=true:=by simpa using hwt
    have HWT:Hid (z1v y t k≠0):=hwt;obtain⟨E,hE⟩: ∃E,z1v y t k=E:=⟨_,rfl⟩;have HW0:Hid (z0s ⟨(y.slot (t+k)).k,(y.slot (t+k)).l,(y.slot (t+k)).h⟩=E):=hE;have HE:Hid (z1v y t k=E):=hE;rw[hE]at hwb;clear hwt hE
    go_wp2_with(first
     |(go_at_call 90;refine(z3j _ _ _ _).mono ?_;rintro e w5 ⟨rfl,hb5⟩;rw[HW0.out];have hK5:Blk w [(w.heap.size,cT #[A D wl,A D wh] 113 (0,0)),(w.heap.size+1,cT #[A D 0,A D 0,A D 0] 186 (0,0)),(B,cT (z03 p y) 190 (0,0)),(wr.heap.size,cT #[A D (y.slot (t+k)).k,A D (y.slot (t+k)).l,A D (y.slot (t+k)).h] 186 (0,0))] w5:=(((hK.later ((bF _ _).alloc (Nat.le_refl _) _)).swap4 (heap_alloc_new wr (cT #[A D (y.slot (t+k)).k,A D (y.slot (t+k)).l,A D (y.slot (t+k)).h] 186))).later hb5);have hO5:=z68 HO.out hb5;clear s0 s1 sf0 sf1 slt z0 z1 z2 zf0 zf1 zf2 zlt yW ylt;clear i0 i1 i2;obtain⟨s0,s1,sf0,sf1,slt⟩:=row2 (hK5.2 _ mcS);obtain⟨z0,z1,z2,zf0,zf1,zf2,zlt⟩:=row3 (hK5.2 _ (mcO _ mcS));have yW:z02 _ B _ _:=(hK5.2 _ (mcO _ (mcO _ mcS)));have ylt:=yW.lt;obtain⟨x0,x1,x2,xf0,xf1,xf2,xlt⟩:=row3 (hK5.2 _ (mcO _ (mcO _ (mcO _ mcS)))))
     |fail)
    have hbw:=hK5.1;exact bodyPost_ret (v:= .tuple #[.agg #[A D 0,A D 0,A D 0],A D E]) (by simp[results,Tryz.results118,go_sem, *]) rfl (Or.inl ⟨k,hlt,HZ.out,HWT.out,by rw[HE.out],kW⟩)
  ·obtain rfl:k=(m+1):=by omega
   obtain⟨s0,s1,sf0,sf1,slt⟩:=row2 (hK.2 _ mcS);obtain⟨z0,z1,z2,zf0,zf1,zf2,zlt⟩:=row3 (hK.2 _ (mcO _ mcS));have yW:z02 _ B _ _:=(hK.2 _ (mcO _ (mcO _ mcS)));have ylt:=yW.lt
   go_wp2_with(first
    |(go_at_call 50;refine(zCx HO.out kO).mono ?_;rintro e w5 ⟨rfl,hb5⟩;have hK5:=hK.later hb5)
    |(go_at_call 116;refine(z1s _ _ _).mono ?_;rintro e w6 ⟨rfl,hb6⟩;simp only[Kno.v,z10];have hK6:=hK5.later hb6;have hbw:=hK6.1;clear s0 s1 sf0 sf1 slt z0 z1 z2 zf0 zf1 zf2 zlt yW ylt;obtain⟨s0,s1,sf0,sf1,slt⟩:=row2 (hK6.2 _ mcS);obtain⟨z0,z1,z2,zf0,zf1,zf2,zlt⟩:=row3 (hK6.2 _ (mcO _ mcS));have yW:z02 _ B _ _:=(hK6.2 _ (mcO _ (mcO _ mcS)));have ylt:=yW.lt)
    |fail)
   exact bodyPost_ret (v:= .tuple #[.agg #[A D 1,A D (z1d (bdAt y t) (m+1)).1,A D (z1d (bdAt y t) (m+1)).2],A D 0]) (by simp[results,Tryz.results118,go_sem, *]) rfl (Or.inr ⟨HZ.out,rfl,kW⟩)
end
section
theorem z3l(x:Kno): ∀l:List Kno,z1h (l++[x])=if z1h l=0 then z0s x else z1h l
 |[]=>by
  show(if z0s x=0 then z1h []else z0s x)=if(0:Int)=0 then z0s x else 0;rw[if_pos rfl];split
  ·rename_i h;exact h.symm
  ·rfl
 |y::l=>by
  show(if z0s y=0 then z1h (l++[x])else z0s y)=if(if z0s y=0 then z1h l else z0s y)=0 then z0s x else if z0s y=0 then z1h l else z0s y
  by_cases h:z0s y=0
  ·rw[if_pos h,if_pos h,z3l x l]
  ·rw[if_neg h,if_neg h,if_neg h]
theorem z7z(x:Kno): ∀(l:List Kno)(p:Int×Int),z2c p (l++[x])=(min (z2c p l).1 x.l,max (z2c p l).2 x.h)
 |[],_=>rfl
 |y::l,p=>by
  show z2c (min p.1 y.l,max p.2 y.h) (l++[x])=_;rw[z7z x l];rfl
theorem z7k(y:Way)(t M:Nat):y.row t (M+1)=y.row t M++[y.slot (t+M)]:=by
 unfold Way.row;rw[List.range'_concat,List.map_append];simp
theorem z4n{y:Way}{t:Nat}: ∀M,(∀j,j<M->z1v y t j=0)->z1h (y.row t M)=0
 |0,_=>rfl
 |M+1,h=>by rw[z7k,z3l,z4n M (fun j hj=>h j kO),if_pos rfl];exact h M kO
theorem z76{y:Way}{t k:Nat}(hk: ∀j,j<k->z1v y t j=0)(hw:z1v y t k≠0): ∀M,k<M->z1h (y.row t M)=z1v y t k
 |0,h=>absurd h kO
 |M+1,h=>by
  by_cases e:k=M
  ·subst e
   rw[z7k,z3l,z4n k hk,if_pos rfl];rfl
  ·rw[z7k,z3l,z76 hk hw M kO,if_neg hw]
theorem zB0{y:Way}{t:Nat}: ∀M,z5t (y.row t (M+1))=z1d (bdAt y t) (M+1)
 |0=>rfl
 |M+1=>by
  rw[z73 _ kO, <-zB0 M,z7k y t (M+1)]
  have: ∃x l,y.row t (M+1)=x::l:=by
   cases h:y.row t (M+1)with
   |nil=>have:=congrArg List.length h;simp[Way.row]at this
   |cons x l=>exact⟨x,l,rfl⟩
  obtain⟨x,l,e⟩:=this;rw[e];show z2c (x.l,x.h) (l++[y.slot (t+(M+1))])=_;rw[z7z];rfl
theorem zPa(B:Nat)(wl wh p:Int)(y:Way)(h0: -16<=wl)(h1:wl<=wh)(h2:wh<= -1)(w:World)(hW:z02 w B p y):
  zR 118 #[pT (some ⟨B,0,none⟩),.agg #[A D wl,A D wh]] w (.tuple #[(y.kept (wl,wh)).1.v,A D (y.kept (wl,wh)).2]):=by
 obtain⟨t,et⟩:=Int.eq_ofNat_of_zero_le (show 0<=wl+16 by omega);obtain⟨m,em⟩:=Int.eq_ofNat_of_zero_le (show 0<=wh-wl by omega);have e1:IntKind.i64.wrap (wl+16)=(t:Int):=by rw[IntWalk.i64_left,z08 kO kO];exact et
 have t1:(wl+16).toNat=t:=kO;have m1:(wh-wl+1).toNat=m+1:=kO;unfold Way.kept;show Calls _ _ _ _ fun e w'=>e= rT (.tuple #[(if wl=wh/\(y.slot (wl+16).toNat).k≠0 then(y.slot (wl+16).toNat,0)else if z1h (y.row (wl+16).toNat (wh-wl+1).toNat)≠0 then(kno0,z1h (y.row (wl+16).toNat (wh-wl+1).toNat))else(z10 (z5t (y.row (wl+16).toNat (wh-wl+1).toNat)).1 (z5t (y.row (wl+16).toNat (wh-wl+1).toNat)).2,0):Kno×Int).1.v,A D (if wl=wh/\(y.slot (wl+16).toNat).k≠0 then(y.slot (wl+16).toNat,0)else if z1h (y.row (wl+16).toNat (wh-wl+1).toNat)≠0 then(kno0,z1h (y.row (wl+16).toNat (wh-wl+1).toNat))else(z10 (z5t (y.row (wl+16).toNat (wh-wl+1).toNat)).1 (z5t (y.row (wl+16).toNat (wh-wl+1).toNat)).2,0):Kno×Int).2])/\Below w.heap.size w w';rw[t1,m1]
 by_cases c:wl=wh/\(y.slot t).k≠0
 ·rw[if_pos c]
  obtain⟨rfl,c2⟩:=c;exact zP9 B t wl p y kO e1 (by simpa using c2) w hW
 rw[if_neg c]
 have fin: ∀{e:Ending}{w':World},((∃k,k<m+1/\(∀j,j<k->z1v y t j=0)/\z1v y t k≠0/\e= rT (.tuple #[.agg #[A D 0,A D 0,A D 0],A D (z1v y t k)])/\Below w.heap.size w w')\/((∀j,j<m+1->z1v y t j=0)/\e= rT (.tuple #[.agg #[A D 1,A D (z1d (bdAt y t) (m+1)).1,A D (z1d (bdAt y t) (m+1)).2],A D 0])/\Below w.heap.size w w'))->
   e= rT (.tuple #[(if z1h (y.row t (m+1))≠0 then(kno0,z1h (y.row t (m+1)))else(z10 (z5t (y.row t (m+1))).1 (z5t (y.row t (m+1))).2,0):Kno×Int).1.v,A D (if z1h (y.row t (m+1))≠0 then(kno0,z1h (y.row t (m+1)))else(z10 (z5t (y.row t (m+1))).1 (z5t (y.row t (m+1))).2,0):Kno×Int).2])/\Below w.heap.size w w':=by
  rintro e w' (⟨k,hk,hz,hne,rfl,hb⟩|⟨hz,rfl,hb⟩)
  ·rw[z76 hz hne _ hk,if_pos hne];exact⟨rfl,hb⟩
  ·rw[z4n _ hz,if_neg kS,zB0];exact⟨rfl,hb⟩
 by_cases d:wl=wh
 ·subst d
  have m0:m=0:=kO;subst m0
  have k0:((y.slot t).k !=0)=false:=by
   cases hb:(y.slot t).k !=0
   ·rfl
   ·exact absurd ⟨rfl,by simpa using hb⟩ c
  exact(zMd B t wl p y kO e1 k0 w hW).mono fun e w' h=>fin h
 have e2:IntKind.i64.wrap (wh+16)=(t:Int)+(m:Int):=by rw[IntWalk.i64_left,z08 kO kO];omega
 exact(zMc B t m wl wh p y kO e1 e2 (fun e=>d e.symm) w hW).mono fun e w' h=>fin h
theorem Blk.add{w0 w:World}{F:List (Nat×Obj)}(h:Blk w0 F w)(z:Obj):Blk w0 ((w.heap.size,z)::F) (w.alloc z):=
 (h.later ((bF _ _).alloc (Nat.le_refl _) z)).cons (heap_alloc_new w z)
attribute [local simp] z0p z0j z04
theorem z85(B d s:Nat)(c o n p:Int)(r:Bool)(y:Way)(hd:d<11)(hs:s<11)(wl wh E:Int)(HR:Hid (∀W:World,zR 115 #[.agg #[A D (y.reg s).k,A D (y.reg s).l,A D (y.reg s).h],A D o] W (.tuple #[.agg #[A D wl,A D wh],A D E]))):(∀(hE:(E==0)=false)(w:World)(hW:z02 w B p y),zR 91 #[pT (some ⟨B,0,none⟩),.agg #[A D c,A D d,A D s,.bool r,A D o,A D n]] w (A D E))/\(∀(hE:(E==0)=true)(hk:((y.reg s).k==3)=false)(w:World)(hW:z02 w B p y),Calls tP 91 #[pT (some ⟨B,0,none⟩),.agg #[A D c,A D d,A D s,.bool r,A D o,A D n]] w fun e w'=>e= rT (A D E)/\Kept B w w'/\z02 w' B p (y.putReg d ⟨1,(-9223372036854775808),9223372036854775807⟩))/\(∀(hE:(E==0)=true)(hk:((y.reg s).k==3)=true)(gk gl gh E2:Int)(HKP:Hid (∀W:World,z02 W B p y->zR 118 #[pT (some ⟨B,0,none⟩),.agg #[A D wl,A D wh]] W (.tuple #[.agg #[A D gk,A D gl,A D gh],A D E2])))(hE2:(E2==0)=false)(w:World)(hW:z02 w B p y),zR 91 #[pT (some ⟨B,0,none⟩),.agg #[A D c,A D d,A D s,.bool r,A D o,A D n]] w (A D E2))/\(∀(hE:(E==0)=true)(hk:((y.reg s).k==3)=true)(gk gl gh E2:Int)(HKP:Hid (∀W:World,z02 W B p y->zR 118 #[pT (some ⟨B,0,none⟩),.agg #[A D wl,A D wh]] W (.tuple #[.agg #[A D gk,A D gl,A D gh],A D E2])))(hE2:(E2==0)=true)(w:World)(hW:z02 w B p y),Calls tP 91 #[pT (some ⟨B,0,none⟩),.agg #[A D c,A D d,A D s,.bool r,A D o,A D n]] w fun e w'=>e= rT (A D E2)/\Kept B w w'/\z02 w' B p (y.putReg d ⟨gk,gl,gh⟩)):=by
 refine⟨?_,?_,?_,?_⟩;intro hE w hW;rotate_left;intro hE hk w hW;rotate_left;intro hE hk gk gl gh E2 HKP hE2 w hW;rotate_left;intro hE hk gk gl gh E2 HKP hE2 w hW;rotate_left
 all_goals
  have hK0:Blk w [(w.heap.size,cT #[A D c,A D d,A D s,.bool r,A D o,A D n] 121 (0,0)),(B,cT (z03 p y) 190 (0,0))] _:=((Blk.nil ((bF _ _).alloc (Nat.le_refl _) _)).cons (hW.alloc _)).cons (heap_alloc_new w (cT #[A D c,A D d,A D s,.bool r,A D o,A D n] 121));have hB:=hW.lt;have hs0:(0:Int)<=(s:Int):=kO;have hs1:(s:Int)<11:=kO;have hd0:(0:Int)<=(d:Int):=kO;have hd1:(d:Int)<11:=kO
 all_goals
  go_enter Tryz.func91,Tryz.ntmps91;go_wp2_with fail;refine z0o (C:=Blk w [(w.heap.size,cT #[A D c,A D d,A D s,.bool r,A D o,A D n] 121 (0,0)),(B,cT (z03 p y) 190 (0,0))]) (n0:=w.heap.size+1) 7 [] [cT #[A D 0,A D 0,A D 0] 186 (0,0)] kR kR (fun d _ _ _ _ h=>by cases d<;>exact h) (Blk.stable _ _) (Blk.room w mcS) hK0.drew ⟨⟨rfl,fun a w2 hC=>by go_simp;try rfl⟩,trivial⟩ ?_;simp only[lV,lX,lY,lZ,lQ,lJ,Nat.reduceAdd]
  repeat(first
   |(refine z0q kI ?_;simp only[pS])
   |(refine z0c kI (v:=?_) ?_ ?_;rotate_left;(intro w2 hC;obtain⟨p0,p1,p2,p3,p4,p5,ltS⟩:=row6 (hC.2 _ mcS);have yW:z02 _ B _ _:=(hC.2 _ (mcO _ mcS));have ylt:=yW.lt;obtain⟨i0,i1,i2⟩:=yW.reg hs;go_simp;try with_reducible rfl);simp only[pS]))
  refine z11 ?_;intro L h5 g5 w3 hC hB3;have bL:=hB3 L _ (FB.at_new _ _ _);obtain⟨l0,l1,l2,lf0,lf1,lf2,llt⟩:=row3 bL;obtain⟨p0,p1,p2,p3,p4,p5,ltS⟩:=row6 (hC.2 _ mcS);have yW:z02 _ B _ _:=(hC.2 _ (mcO _ mcS));have ylt:=yW.lt;obtain⟨i0,i1,i2⟩:=yW.reg hs;have hbw:=hC.1;have n1:w.heap.size≠L:=kO;have n2:B≠L:=kO;simp only[z6y]
 ·go_wp2_with(first
   |(go_at_call 115;have hK1:Blk w [(L,cT #[A D (y.reg s).k,A D (y.reg s).l,A D (y.reg s).h] 186 (0,0)),(B,cT (z03 p y) 190 (0,0)),(w.heap.size,cT #[A D c,A D d,A D s,.bool r,A D o,A D n] 121 (0,0))] _:=(((Blk.nil kW).cons (off3 (hC.2 _ mcS) n1)).cons (off3 (hC.2 _ (mcO _ mcS)) n2)).cons (put3 bL);refine(HR.out _).mono ?_;rintro e w4 ⟨rfl,hb4⟩;have hK4:=hK1.later hb4;clear l0 l1 l2 lf0 lf1 lf2 llt p0 p1 p2 p3 p4 p5 ltS yW ylt i0 i1 i2;obtain⟨l0,l1,l2,lf0,lf1,lf2,llt⟩:=row3 (hK4.2 _ mcS);have yW:z02 _ B _ _:=(hK4.2 _ (mcO _ mcS));have ylt:=yW.lt;obtain⟨p0,p1,p2,p3,p4,p5,ltS⟩:=row6 (hK4.2 _ (mcO _ (mcO _ mcS))))
   |(go_at_call 117;refine(z62 _).mono ?_;rintro e w5 ⟨rfl,hb5⟩;have hK5:=(hK4.add (cT #[A D wl,A D wh] 113)).later hb5;clear l0 l1 l2 lf0 lf1 lf2 llt p0 p1 p2 p3 p4 p5 ltS yW ylt;obtain⟨u0,u1,uf0,uf1,ult⟩:=row2 (hK5.2 _ mcS);obtain⟨l0,l1,l2,lf0,lf1,lf2,llt⟩:=row3 (hK5.2 _ (mcO _ mcS));have yW:z02 _ B _ _:=(hK5.2 _ (mcO _ (mcO _ mcS)));have ylt:=yW.lt;obtain⟨p0,p1,p2,p3,p4,p5,ltS⟩:=row6 (hK5.2 _ (mcO _ (mcO _ (mcO _ mcS)))))
   |(go_at_call 116;refine(z1s _ _ _).mono ?_;rintro e w6 ⟨rfl,hb6⟩;simp only[Kno.v,z10];have hK6:=hK5.later hb6;clear l0 l1 l2 lf0 lf1 lf2 llt p0 p1 p2 p3 p4 p5 ltS yW ylt u0 u1 uf0 uf1 ult;obtain⟨u0,u1,uf0,uf1,ult⟩:=row2 (hK6.2 _ mcS);obtain⟨l0,l1,l2,lf0,lf1,lf2,llt⟩:=row3 (hK6.2 _ (mcO _ mcS));have yW:z02 _ B _ _:=(hK6.2 _ (mcO _ (mcO _ mcS)));have ylt:=yW.lt;obtain⟨p0,p1,p2,p3,p4,p5,ltS⟩:=row6 (hK6.2 _ (mcO _ (mcO _ (mcO _ mcS))));have hbw6:=hK6.1;have hs6:=hbw6.size;have hq6:=ylt;have hq7:=ltS)
   |fail)
  go_ret;exact⟨rfl,kW⟩
 ·go_wp2_with(first
   |(go_at_call 115;have hK1:Blk w [(L,cT #[A D (y.reg s).k,A D (y.reg s).l,A D (y.reg s).h] 186 (0,0)),(B,cT (z03 p y) 190 (0,0)),(w.heap.size,cT #[A D c,A D d,A D s,.bool r,A D o,A D n] 121 (0,0))] _:=(((Blk.nil kW).cons (off3 (hC.2 _ mcS) n1)).cons (off3 (hC.2 _ (mcO _ mcS)) n2)).cons (put3 bL);refine(HR.out _).mono ?_;rintro e w4 ⟨rfl,hb4⟩;have hK4:=hK1.later hb4;clear l0 l1 l2 lf0 lf1 lf2 llt p0 p1 p2 p3 p4 p5 ltS yW ylt i0 i1 i2;obtain⟨l0,l1,l2,lf0,lf1,lf2,llt⟩:=row3 (hK4.2 _ mcS);have yW:z02 _ B _ _:=(hK4.2 _ (mcO _ mcS));have ylt:=yW.lt;obtain⟨p0,p1,p2,p3,p4,p5,ltS⟩:=row6 (hK4.2 _ (mcO _ (mcO _ mcS))))
   |(go_at_call 117;refine(z62 _).mono ?_;rintro e w5 ⟨rfl,hb5⟩;have hK5:=(hK4.add (cT #[A D wl,A D wh] 113)).later hb5;clear l0 l1 l2 lf0 lf1 lf2 llt p0 p1 p2 p3 p4 p5 ltS yW ylt;obtain⟨u0,u1,uf0,uf1,ult⟩:=row2 (hK5.2 _ mcS);obtain⟨l0,l1,l2,lf0,lf1,lf2,llt⟩:=row3 (hK5.2 _ (mcO _ mcS));have yW:z02 _ B _ _:=(hK5.2 _ (mcO _ (mcO _ mcS)));have ylt:=yW.lt;obtain⟨p0,p1,p2,p3,p4,p5,ltS⟩:=row6 (hK5.2 _ (mcO _ (mcO _ (mcO _ mcS)))))
   |(go_at_call 116;refine(z1s _ _ _).mono ?_;rintro e w6 ⟨rfl,hb6⟩;simp only[Kno.v,z10];have hK6:=hK5.later hb6;clear l0 l1 l2 lf0 lf1 lf2 llt p0 p1 p2 p3 p4 p5 ltS yW ylt u0 u1 uf0 uf1 ult;obtain⟨u0,u1,uf0,uf1,ult⟩:=row2 (hK6.2 _ mcS);obtain⟨l0,l1,l2,lf0,lf1,lf2,llt⟩:=row3 (hK6.2 _ (mcO _ mcS));have yW:z02 _ B _ _:=(hK6.2 _ (mcO _ (mcO _ mcS)));have ylt:=yW.lt;obtain⟨p0,p1,p2,p3,p4,p5,ltS⟩:=row6 (hK6.2 _ (mcO _ (mcO _ (mcO _ mcS))));have hbw6:=hK6.1;have hs6:=hbw6.size;have hq6:=ylt;have hq7:=ltS)
   |fail)
  have hK8:Blk w [(w6.heap.size,cT #[A D 1,A D (-9223372036854775808),A D 9223372036854775807] 186 (0,0)),(B,cT (z03 p y) 190 (0,0)),(w.heap.size,cT #[A D c,A D d,A D s,.bool r,A D o,A D n] 121 (0,0))] _:=((((hK6.add (cT #[A D 1,A D (-9223372036854775808),A D 9223372036854775807] 186))))).more (fun x hx=>by simp only[List.mem_cons,List.not_mem_nil,or_false]at hx⊢;rcases hx with rfl|rfl|rfl<;>simp);clear hC;refine z0o (C:=Blk w [(w6.heap.size,cT #[A D 1,A D (-9223372036854775808),A D 9223372036854775807] 186 (0,0)),(B,cT (z03 p y) 190 (0,0)),(w.heap.size,cT #[A D c,A D d,A D s,.bool r,A D o,A D n] 121 (0,0))]) (n0:=w.heap.size) 7 [] [] kR kR (fun d _ _ _ _ h=>by cases d<;>exact h) (Blk.stable _ _) (Blk.room0 _ _) hK8.drew trivial ?_;simp only[lV,lX,lY,lZ,lJ,Nat.reduceAdd]
  repeat(first
   |(refine z0q kI ?_;simp only[pS])
   |(refine z0c kI (v:=?_) ?_ ?_;rotate_left;(intro w2 hC;obtain⟨g0,g1,g2,gf0,gf1,gf2,glt⟩:=row3 (hC.2 _ mcS);have yW:z02 _ B _ _:=(hC.2 _ (mcO _ mcS));have ylt:=yW.lt;obtain⟨i0,i1,i2⟩:=yW.reg hd;obtain⟨p0,p1,p2,p3,p4,p5,ltS⟩:=row6 (hC.2 _ (mcO _ (mcO _ mcS)));go_simp;try with_reducible rfl);simp only[pS]))
  refine z11 ?_;intro w9 hC hB9;obtain⟨g0,g1,g2,gf0,gf1,gf2,glt⟩:=row3 (hC.2 _ mcS);have yW:z02 _ B _ _:=(hC.2 _ (mcO _ mcS));have ylt:=yW.lt;obtain⟨i0,i1,i2⟩:=yW.reg hd;obtain⟨p0,p1,p2,p3,p4,p5,ltS⟩:=row6 (hC.2 _ (mcO _ (mcO _ mcS)));have if0:=yW.frozen (1+d*3);have if1:=yW.frozen (1+d*3+1);have if2:=yW.frozen (1+d*3+2);have HK:=z09 hC.1 B;go_wp2_with fail;go_ret;exact⟨rfl,kK,yW.reg3 hd 1 (-9223372036854775808) 9223372036854775807⟩
 all_goals
  go_wp2_with(first
   |(go_at_call 115;have hK1:Blk w [(L,cT #[A D (y.reg s).k,A D (y.reg s).l,A D (y.reg s).h] 186 (0,0)),(B,cT (z03 p y) 190 (0,0)),(w.heap.size,cT #[A D c,A D d,A D s,.bool r,A D o,A D n] 121 (0,0))] _:=(((Blk.nil kW).cons (off3 (hC.2 _ mcS) n1)).cons (off3 (hC.2 _ (mcO _ mcS)) n2)).cons (put3 bL);refine(HR.out _).mono ?_;rintro e w4 ⟨rfl,hb4⟩;have hK4:=hK1.later hb4;clear l0 l1 l2 lf0 lf1 lf2 llt p0 p1 p2 p3 p4 p5 ltS yW ylt i0 i1 i2;obtain⟨l0,l1,l2,lf0,lf1,lf2,llt⟩:=row3 (hK4.2 _ mcS);have yW:z02 _ B _ _:=(hK4.2 _ (mcO _ mcS));have ylt:=yW.lt;obtain⟨p0,p1,p2,p3,p4,p5,ltS⟩:=row6 (hK4.2 _ (mcO _ (mcO _ mcS))))
   |(go_at_call 117;refine(z62 _).mono ?_;rintro e w5 ⟨rfl,hb5⟩;have hK5:=(hK4.add (cT #[A D wl,A D wh] 113)).later hb5;clear l0 l1 l2 lf0 lf1 lf2 llt p0 p1 p2 p3 p4 p5 ltS yW ylt;obtain⟨u0,u1,uf0,uf1,ult⟩:=row2 (hK5.2 _ mcS);obtain⟨l0,l1,l2,lf0,lf1,lf2,llt⟩:=row3 (hK5.2 _ (mcO _ mcS));have yW:z02 _ B _ _:=(hK5.2 _ (mcO _ (mcO _ mcS)));have ylt:=yW.lt;obtain⟨p0,p1,p2,p3,p4,p5,ltS⟩:=row6 (hK5.2 _ (mcO _ (mcO _ (mcO _ mcS)))))
   |(go_at_call 116;refine(z1s _ _ _).mono ?_;rintro e w6 ⟨rfl,hb6⟩;simp only[Kno.v,z10];have hK6:=hK5.later hb6;clear l0 l1 l2 lf0 lf1 lf2 llt p0 p1 p2 p3 p4 p5 ltS yW ylt u0 u1 uf0 uf1 ult;obtain⟨u0,u1,uf0,uf1,ult⟩:=row2 (hK6.2 _ mcS);obtain⟨l0,l1,l2,lf0,lf1,lf2,llt⟩:=row3 (hK6.2 _ (mcO _ mcS));have yW:z02 _ B _ _:=(hK6.2 _ (mcO _ (mcO _ mcS)));have ylt:=yW.lt;obtain⟨p0,p1,p2,p3,p4,p5,ltS⟩:=row6 (hK6.2 _ (mcO _ (mcO _ (mcO _ mcS))));have hbw6:=hK6.1;have hs6:=hbw6.size;have hq6:=ylt;have hq7:=ltS)
   |(go_at_call 118;have hKG:=(((hK6.add (cT #[A D 1,A D (-9223372036854775808),A D 9223372036854775807] 186))));refine(HKP.out _ (hKG.2 _ (mcO _ (mcO _ (mcO _ mcS))))).mono ?_;rintro e w7 ⟨rfl,hb7⟩;have hK7:=hKG.later hb7;clear l0 l1 l2 lf0 lf1 lf2 llt p0 p1 p2 p3 p4 p5 ltS yW ylt u0 u1 uf0 uf1 ult;obtain⟨g0,g1,g2,gf0,gf1,gf2,glt⟩:=row3 (hK7.2 _ mcS);obtain⟨u0,u1,uf0,uf1,ult⟩:=row2 (hK7.2 _ (mcO _ mcS));obtain⟨l0,l1,l2,lf0,lf1,lf2,llt⟩:=row3 (hK7.2 _ (mcO _ (mcO _ mcS)));have yW:z02 _ B _ _:=(hK7.2 _ (mcO _ (mcO _ (mcO _ mcS))));have ylt:=yW.lt;obtain⟨i0,i1,i2⟩:=yW.reg hd;obtain⟨p0,p1,p2,p3,p4,p5,ltS⟩:=row6 (hK7.2 _ (mcO _ (mcO _ (mcO _ (mcO _ mcS)))));have hbw7:=hK7.1)
   |fail)
 ·go_ret
  exact⟨rfl,kW⟩
 ·have hK8:Blk w [(w6.heap.size,cT #[A D gk,A D gl,A D gh] 186 (0,0)),(B,cT (z03 p y) 190 (0,0)),(w.heap.size,cT #[A D c,A D d,A D s,.bool r,A D o,A D n] 121 (0,0))] _:=((Blk.nil kW).cons (off3 (hK7.2 _ (mcO _ (mcO _ (mcO _ (mcO _ mcS))))) kO)).cons (off3 (hK7.2 _ (mcO _ (mcO _ (mcO _ mcS)))) kO)|>.cons (put3 (hK7.2 _ mcS))
  clear hC;refine z0o (C:=Blk w [(w6.heap.size,cT #[A D gk,A D gl,A D gh] 186 (0,0)),(B,cT (z03 p y) 190 (0,0)),(w.heap.size,cT #[A D c,A D d,A D s,.bool r,A D o,A D n] 121 (0,0))]) (n0:=w.heap.size) 7 [] [] kR kR (fun d _ _ _ _ h=>by cases d<;>exact h) (Blk.stable _ _) (Blk.room0 _ _) hK8.drew trivial ?_;simp only[lV,lX,lY,lZ,lJ,Nat.reduceAdd]
  repeat(first
   |(refine z0q kI ?_;simp only[pS])
   |(refine z0c kI (v:=?_) ?_ ?_;rotate_left;(intro w2 hC;obtain⟨g0,g1,g2,gf0,gf1,gf2,glt⟩:=row3 (hC.2 _ mcS);have yW:z02 _ B _ _:=(hC.2 _ (mcO _ mcS));have ylt:=yW.lt;obtain⟨i0,i1,i2⟩:=yW.reg hd;obtain⟨p0,p1,p2,p3,p4,p5,ltS⟩:=row6 (hC.2 _ (mcO _ (mcO _ mcS)));go_simp;try with_reducible rfl);simp only[pS]))
  refine z11 ?_;intro w9 hC hB9;obtain⟨g0,g1,g2,gf0,gf1,gf2,glt⟩:=row3 (hC.2 _ mcS);have yW:z02 _ B _ _:=(hC.2 _ (mcO _ mcS));have ylt:=yW.lt;obtain⟨i0,i1,i2⟩:=yW.reg hd;obtain⟨p0,p1,p2,p3,p4,p5,ltS⟩:=row6 (hC.2 _ (mcO _ (mcO _ mcS)));have if0:=yW.frozen (1+d*3);have if1:=yW.frozen (1+d*3+1);have if2:=yW.frozen (1+d*3+2);have HK:=z09 hC.1 B;go_wp2_with fail;go_ret;exact⟨rfl,kK,yW.reg3 hd gk gl gh⟩
def zSt:=fun B d s c o n p r y hd hs wl wh E HR=>(@z85 B d s c o n p r y hd hs wl wh E HR).1
def zP7:=fun B d s c o n p r y hd hs wl wh E HR=>(@z85 B d s c o n p r y hd hs wl wh E HR).2.1
def zP6:=fun B d s c o n p r y hd hs wl wh E HR=>(@z85 B d s c o n p r y hd hs wl wh E HR).2.2.1
def zMb:=fun B d s c o n p r y hd hs wl wh E HR=>(@z85 B d s c o n p r y hd hs wl wh E HR).2.2.2
theorem zP8{B d s:Nat}{c o n p:Int}{r:Bool}{y:Way}(hd:d<11)(hs:s<11)(hy:y.Ok)(ho:In64 o){w:World}(hW:z02 w B p y):
  Calls tP 91 #[pT (some ⟨B,0,none⟩),.agg #[A D c,A D d,A D s,.bool r,A D o,A D n]] w fun e w'=>e= rT (A D (y.load d s o).1)/\Kept B w w'/\z02 w' B p (y.load d s o).2:=by
 have HR:=fun W:World=>zCe (y.reg s) o (hy.reg s hs) ho W;unfold Way.load;rcases e:z0i (y.reg s) o with⟨⟨wl,wh⟩,E⟩
 rw[e]at HR
 by_cases hE:E=0
 ·subst hE
  rw[if_neg kS];have er:(z0i (y.reg s) o).2=0:=by rw[e]
  obtain⟨-,e1,r1,r2⟩:=z4g er;have ot:=z7x (hy.reg s hs) ho;rw[e]at e1;rw[<-e1]at r1 r2 ot
  by_cases h3:(y.reg s).k=3
  ·rw[if_pos h3]
   rw[h3]at r1 r2;have HKP:=fun(W:World) (h:z02 W B p y)=>zPa B wl wh p y r1 ot r2 W h;show Calls _ _ _ _ fun e w'=>e= rT (A D (if(y.kept (wl,wh)).2≠0 then((y.kept (wl,wh)).2,y)else(0,y.putReg d (y.kept (wl,wh)).1):Int×Way).1)/\Kept B w w'/\z02 w' B p (if(y.kept (wl,wh)).2≠0 then((y.kept (wl,wh)).2,y)else(0,y.putReg d (y.kept (wl,wh)).1):Int×Way).2;rcases ek:y.kept (wl,wh)with⟨⟨gk,gl,gh⟩,E2⟩
   rw[ek]at HKP
   by_cases hE2:E2=0
   ·subst hE2
    rw[if_neg kS];exact zMb B d s c o n p r y hd hs wl wh 0 HR rfl (by simpa using h3) gk gl gh 0 HKP rfl w hW
   ·rw[if_pos hE2]
    exact(zP6 B d s c o n p r y hd hs wl wh 0 HR rfl (by simpa using h3) gk gl gh E2 HKP (by simpa using hE2) w hW).mono fun e w' ⟨h1,h2⟩=>⟨h1,z09 h2 B,hW.later h2⟩
  ·rw[if_neg h3]
   exact zP7 B d s c o n p r y hd hs wl wh 0 HR rfl (by simpa using h3) w hW
 rw[if_pos hE];exact(zSt B d s c o n p r y hd hs wl wh E HR (by simpa using hE) w hW).mono fun e w' ⟨h1,h2⟩=>⟨h1,z09 h2 B,hW.later h2⟩
theorem zB8(B d s:Nat)(c o n p:Int)(r:Bool)(y:Way)(hd:d<11)(hs:s<11)(bk bl bh:Int)(HB:Hid (y.second s r n=⟨bk,bl,bh⟩)):(∀(wl wh E:Int)(HR:Hid (∀W:World,zR 115 #[.agg #[A D (y.reg d).k,A D (y.reg d).l,A D (y.reg d).h],A D o] W (.tuple #[.agg #[A D wl,A D wh],A D E])))(X:Int)(HX:Hid (((E !=0)=true/\X=E)\/((E !=0)=false/\((y.reg d).k==2)=true/\X=6)\/((E !=0)=false/\((y.reg d).k==2)=false/\(bk==0)=true/\X=8)\/((E !=0)=false/\((y.reg d).k==2)=false/\(bk==0)=false/\((y.reg d).k==4)=true/\X=z0s ⟨bk,bl,bh⟩)))(w:World)(hW:z02 w B p y),zR 92 #[pT (some ⟨B,0,none⟩),.agg #[A D c,A D d,A D s,.bool r,A D o,A D n]] w (A D X))/\(∀(wl wh E:Int)(HR:Hid (∀W:World,zR 115 #[.agg #[A D (y.reg d).k,A D (y.reg d).l,A D (y.reg d).h],A D o] W (.tuple #[.agg #[A D wl,A D wh],A D E])))(hE:(E !=0)=false)(x2:((y.reg d).k==2)=false)(x3:(bk==0)=false)(x4:((y.reg d).k==4)=false)(hwide: ¬wh=wl)(w:World)(hW:z02 w B p y),zR 92 #[pT (some ⟨B,0,none⟩),.agg #[A D c,A D d,A D s,.bool r,A D o,A D n]] w (A D 2))/\(∀(wl E:Int)(HR:Hid (∀W:World,zR 115 #[.agg #[A D (y.reg d).k,A D (y.reg d).l,A D (y.reg d).h],A D o] W (.tuple #[.agg #[A D wl,A D wl],A D E])))(t:Nat)(ht:t<16)(e1:IntKind.i64.wrap (wl+16)=(t:Int))(hE:(E !=0)=false)(x2:((y.reg d).k==2)=false)(x3:(bk==0)=false)(x4:((y.reg d).k==4)=false)(w:World)(hW:z02 w B p y),Calls tP 92 #[pT (some ⟨B,0,none⟩),.agg #[A D c,A D d,A D s,.bool r,A D o,A D n]] w fun e w'=>e= rT (A D 0)/\Kept B w w'/\z02 w' B p (y.putSlot t ⟨bk,bl,bh⟩)):=by
 refine⟨?_,?_,?_⟩;intro wl wh E HR X HX w hW;rotate_left;intro wl wh E HR hE x2 x3 x4 hwide w hW;rotate_left;intro wl E HR t ht e1 hE x2 x3 x4 w hW;rotate_left
 all_goals
  have hK0:Blk w [(w.heap.size,cT #[A D c,A D d,A D s,.bool r,A D o,A D n] 121 (0,0)),(B,cT (z03 p y) 190 (0,0))] _:=((Blk.nil ((bF _ _).alloc (Nat.le_refl _) _)).cons (hW.alloc _)).cons (heap_alloc_new w (cT #[A D c,A D d,A D s,.bool r,A D o,A D n] 121));have hB:=hW.lt;have hs0:(0:Int)<=(s:Int):=kO;have hs1:(s:Int)<11:=kO;have hd0:(0:Int)<=(d:Int):=kO;have hd1:(d:Int)<11:=kO
 rotate_left;rotate_left;have ht0:(0:Int)<=(t:Int):=kO;have ht1:(t:Int)<16:=kO;rotate_left
 all_goals
  go_enter Tryz.func92,Tryz.ntmps92;go_wp2_with fail;refine z0o (C:=Blk w [(w.heap.size,cT #[A D c,A D d,A D s,.bool r,A D o,A D n] 121 (0,0)),(B,cT (z03 p y) 190 (0,0))]) (n0:=w.heap.size+1) 10 [] [cT #[A D 0,A D 0,A D 0] 186 (0,0),cT #[A D 0,A D 0,A D 0] 186 (0,0)] kR kR (fun d _ _ _ _ h=>by cases d<;>exact h) (Blk.stable _ _) (Blk.room w mcS) hK0.drew ⟨⟨rfl,fun a w2 hC=>by go_simp;try rfl⟩,⟨rfl,fun a w2 hC=>by go_simp;try rfl⟩,trivial⟩ ?_;simp only[lV,lX,lY,lZ,lQ,lJ,Nat.reduceAdd]
  repeat(first
   |(refine z0q kI ?_;simp only[pS])
   |(refine z0c kI (v:=?_) ?_ ?_;rotate_left;(intro w2 hC;obtain⟨p0,p1,p2,p3,p4,p5,ltS⟩:=row6 (hC.2 _ mcS);have yW:z02 _ B _ _:=(hC.2 _ (mcO _ mcS));have ylt:=yW.lt;obtain⟨i0,i1,i2⟩:=yW.reg hd;go_simp;try with_reducible rfl);simp only[pS])
   |(refine z18 kI ?_;apply Exists.intro;refine⟨fun w2 hC=>?_,?_⟩;(obtain⟨p0,p1,p2,p3,p4,p5,ltS⟩:=row6 (hC.2 _ mcS);have yW:z02 _ B _ _:=(hC.2 _ (mcO _ mcS));have ylt:=yW.lt;obtain⟨i0,i1,i2⟩:=yW.reg hd;go_simp;apply z1k;first|(go_at_call 112;exact(by have hq:=z39 B s c d o n r p y hs w2 yW;rw[HB.out]at hq;unfold Kno.v at hq;exact hq)));simp only[pS]))
  refine z11 ?_;intro L h5 g5 K h6 g6 w3 hC hB3;have hne:K≠L:=(FB.upd_none h6).1;have hne':L≠K:=fun e=>hne e.symm;have bK:=hB3 K _ (FB.at_new _ _ _);have bL:=hB3 L _ (FB.at_old hne' (FB.at_new _ _ _));obtain⟨l0,l1,l2,lf0,lf1,lf2,llt⟩:=row3 bL;obtain⟨k0,k1,k2,kf0,kf1,kf2,klt⟩:=row3 bK;obtain⟨p0,p1,p2,p3,p4,p5,ltS⟩:=row6 (hC.2 _ mcS);have yW:z02 _ B _ _:=(hC.2 _ (mcO _ mcS));have ylt:=yW.lt;obtain⟨i0,i1,i2⟩:=yW.reg hd;have hbw:=hC.1;have n1:w.heap.size≠L:=kO;have n2:B≠L:=kO;have n3:w.heap.size≠K:=kO;have n4:B≠K:=kO;simp only[z6y]
 ·go_upto_region 3 with(first
   |(go_at_call 115;have hK1:Blk w [(L,cT #[A D (y.reg d).k,A D (y.reg d).l,A D (y.reg d).h] 186 (0,0)),(K,cT #[A D bk,A D bl,A D bh] 186 (0,0)),(B,cT (z03 p y) 190 (0,0)),(w.heap.size,cT #[A D c,A D d,A D s,.bool r,A D o,A D n] 121 (0,0))] _:=((((Blk.nil kW).cons (off3 (off3 (hC.2 _ mcS) n1) n3)).cons (off3 (off3 (hC.2 _ (mcO _ mcS)) n2) n4)).cons (put3 (off3 bK hne))).cons (off3 (put3 bL) hne');refine(HR.out _).mono ?_;rintro e w4 ⟨rfl,hb4⟩;have hK4:=hK1.later hb4;clear l0 l1 l2 lf0 lf1 lf2 llt k0 k1 k2 kf0 kf1 kf2 klt p0 p1 p2 p3 p4 p5 ltS yW ylt i0 i1 i2;obtain⟨l0,l1,l2,lf0,lf1,lf2,llt⟩:=row3 (hK4.2 _ mcS);obtain⟨k0,k1,k2,kf0,kf1,kf2,klt⟩:=row3 (hK4.2 _ (mcO _ mcS));have yW:z02 _ B _ _:=(hK4.2 _ (mcO _ (mcO _ mcS)));have ylt:=yW.lt;obtain⟨p0,p1,p2,p3,p4,p5,ltS⟩:=row6 (hK4.2 _ (mcO _ (mcO _ (mcO _ mcS))));have hbw4:=hK4.1)
   |fail)
  rcases HX.out with⟨hE,rfl⟩|⟨hE,x2,rfl⟩|⟨hE,x2,x3,rfl⟩|⟨hE,x2,x3,x4,rfl⟩
  ·go_wp2_with fail
   go_ret;exact⟨rfl,kW⟩
  ·go_wp2_with fail
   go_ret;exact⟨rfl,kW⟩
  ·go_wp2_with fail
   go_ret;exact⟨rfl,kW⟩
  go_wp2_with(first|(go_at_call 90;refine(z3j bk bl bh _).mono ?_;rintro e w5 ⟨rfl,hb5⟩;have hbw4:=((hK4.add (cT #[A D wl,A D wh] 113)).later hb5).1)|fail);go_ret;exact⟨rfl,kW⟩
 all_goals
  go_wp2_with(first
   |(go_at_call 115;have hK1:Blk w [(L,cT #[A D (y.reg d).k,A D (y.reg d).l,A D (y.reg d).h] 186 (0,0)),(K,cT #[A D bk,A D bl,A D bh] 186 (0,0)),(B,cT (z03 p y) 190 (0,0)),(w.heap.size,cT #[A D c,A D d,A D s,.bool r,A D o,A D n] 121 (0,0))] _:=((((Blk.nil kW).cons (off3 (off3 (hC.2 _ mcS) n1) n3)).cons (off3 (off3 (hC.2 _ (mcO _ mcS)) n2) n4)).cons (put3 (off3 bK hne))).cons (off3 (put3 bL) hne');refine(HR.out _).mono ?_;rintro e w4 ⟨rfl,hb4⟩;have hK4:=hK1.later hb4;clear l0 l1 l2 lf0 lf1 lf2 llt k0 k1 k2 kf0 kf1 kf2 klt p0 p1 p2 p3 p4 p5 ltS yW ylt i0 i1 i2;obtain⟨l0,l1,l2,lf0,lf1,lf2,llt⟩:=row3 (hK4.2 _ mcS);obtain⟨k0,k1,k2,kf0,kf1,kf2,klt⟩:=row3 (hK4.2 _ (mcO _ mcS));have yW:z02 _ B _ _:=(hK4.2 _ (mcO _ (mcO _ mcS)));have ylt:=yW.lt;obtain⟨p0,p1,p2,p3,p4,p5,ltS⟩:=row6 (hK4.2 _ (mcO _ (mcO _ (mcO _ mcS))));have hbw4:=hK4.1)
   |fail)
 ·have hK5:=hK4.add (cT #[A D wl,A D wh] 113)
  clear hC l0 l1 l2 lf0 lf1 lf2 llt k0 k1 k2 kf0 kf1 kf2 klt p0 p1 p2 p3 p4 p5 ltS yW ylt;refine z0o (C:=Blk w [(w4.heap.size,cT #[A D wl,A D wh] 113 (0,0)),(L,cT #[A D (y.reg d).k,A D (y.reg d).l,A D (y.reg d).h] 186 (0,0)),(K,cT #[A D bk,A D bl,A D bh] 186 (0,0)),(B,cT (z03 p y) 190 (0,0)),(w.heap.size,cT #[A D c,A D d,A D s,.bool r,A D o,A D n] 121 (0,0))]) (n0:=w.heap.size) 5 [] [] kR kR (fun d _ _ _ _ h=>by cases d<;>exact h) (Blk.stable _ _) (Blk.room0 _ _) hK5.drew trivial ?_;simp only[lV,lX,lY,lZ,lJ,Nat.reduceAdd]
  repeat(first
   |(refine z0q kI ?_;simp only[pS])
   |(refine z0c kI (v:=?_) ?_ ?_;rotate_left;(intro w2 hC;obtain⟨u0,u1,uf0,uf1,ult⟩:=row2 (hC.2 _ mcS);obtain⟨l0,l1,l2,lf0,lf1,lf2,llt⟩:=row3 (hC.2 _ (mcO _ mcS));obtain⟨k0,k1,k2,kf0,kf1,kf2,klt⟩:=row3 (hC.2 _ (mcO _ (mcO _ mcS)));have yW:z02 _ B _ _:=(hC.2 _ (mcO _ (mcO _ (mcO _ mcS))));have ylt:=yW.lt;obtain⟨p0,p1,p2,p3,p4,p5,ltS⟩:=row6 (hC.2 _ (mcO _ (mcO _ (mcO _ (mcO _ mcS)))));go_simp;try with_reducible rfl);simp only[pS])
   |(refine z18 kI ?_;apply Exists.intro;refine⟨fun w2 hC=>?_,?_⟩;(obtain⟨u0,u1,uf0,uf1,ult⟩:=row2 (hC.2 _ mcS);obtain⟨l0,l1,l2,lf0,lf1,lf2,llt⟩:=row3 (hC.2 _ (mcO _ mcS));obtain⟨k0,k1,k2,kf0,kf1,kf2,klt⟩:=row3 (hC.2 _ (mcO _ (mcO _ mcS)));have yW:z02 _ B _ _:=(hC.2 _ (mcO _ (mcO _ (mcO _ mcS))));have ylt:=yW.lt;obtain⟨p0,p1,p2,p3,p4,p5,ltS⟩:=row6 (hC.2 _ (mcO _ (mcO _ (mcO _ (mcO _ mcS)))));go_simp;apply z1k;first|(go_at_call 86;exact z4f _ w2));simp only[pS]))
  refine z11 ?_;intro w6 hC hB6;obtain⟨u0,u1,uf0,uf1,ult⟩:=row2 (hC.2 _ mcS);obtain⟨l0,l1,l2,lf0,lf1,lf2,llt⟩:=row3 (hC.2 _ (mcO _ mcS));obtain⟨k0,k1,k2,kf0,kf1,kf2,klt⟩:=row3 (hC.2 _ (mcO _ (mcO _ mcS)));have yW:z02 _ B _ _:=(hC.2 _ (mcO _ (mcO _ (mcO _ mcS))));have ylt:=yW.lt;obtain⟨p0,p1,p2,p3,p4,p5,ltS⟩:=row6 (hC.2 _ (mcO _ (mcO _ (mcO _ (mcO _ mcS)))));have hbw4:=hC.1;go_wp2_with fail;go_ret;exact⟨rfl,kW⟩
 ·have hK5:=hK4.add (cT #[A D wl,A D wl] 113)
  clear hC l0 l1 l2 lf0 lf1 lf2 llt k0 k1 k2 kf0 kf1 kf2 klt p0 p1 p2 p3 p4 p5 ltS yW ylt;refine z0o (C:=Blk w [(w4.heap.size,cT #[A D wl,A D wl] 113 (0,0)),(L,cT #[A D (y.reg d).k,A D (y.reg d).l,A D (y.reg d).h] 186 (0,0)),(K,cT #[A D bk,A D bl,A D bh] 186 (0,0)),(B,cT (z03 p y) 190 (0,0)),(w.heap.size,cT #[A D c,A D d,A D s,.bool r,A D o,A D n] 121 (0,0))]) (n0:=w.heap.size) 5 [] [] kR kR (fun d _ _ _ _ h=>by cases d<;>exact h) (Blk.stable _ _) (Blk.room0 _ _) hK5.drew trivial ?_;simp only[lV,lX,lY,lZ,lJ,Nat.reduceAdd]
  repeat(first
   |(refine z0q kI ?_;simp only[pS])
   |(refine z0c kI (v:=?_) ?_ ?_;rotate_left;(intro w2 hC;obtain⟨u0,u1,uf0,uf1,ult⟩:=row2 (hC.2 _ mcS);obtain⟨l0,l1,l2,lf0,lf1,lf2,llt⟩:=row3 (hC.2 _ (mcO _ mcS));obtain⟨k0,k1,k2,kf0,kf1,kf2,klt⟩:=row3 (hC.2 _ (mcO _ (mcO _ mcS)));have yW:z02 _ B _ _:=(hC.2 _ (mcO _ (mcO _ (mcO _ mcS))));have ylt:=yW.lt;obtain⟨p0,p1,p2,p3,p4,p5,ltS⟩:=row6 (hC.2 _ (mcO _ (mcO _ (mcO _ (mcO _ mcS)))));go_simp;try with_reducible rfl);simp only[pS])
   |(refine z18 kI ?_;apply Exists.intro;refine⟨fun w2 hC=>?_,?_⟩;(obtain⟨u0,u1,uf0,uf1,ult⟩:=row2 (hC.2 _ mcS);obtain⟨l0,l1,l2,lf0,lf1,lf2,llt⟩:=row3 (hC.2 _ (mcO _ mcS));obtain⟨k0,k1,k2,kf0,kf1,kf2,klt⟩:=row3 (hC.2 _ (mcO _ (mcO _ mcS)));have yW:z02 _ B _ _:=(hC.2 _ (mcO _ (mcO _ (mcO _ mcS))));have ylt:=yW.lt;obtain⟨p0,p1,p2,p3,p4,p5,ltS⟩:=row6 (hC.2 _ (mcO _ (mcO _ (mcO _ (mcO _ mcS)))));go_simp;apply z1k;first|(go_at_call 86;exact z4f _ w2));simp only[pS]))
  refine z11 ?_;intro w6 hC hB6;obtain⟨u0,u1,uf0,uf1,ult⟩:=row2 (hC.2 _ mcS);obtain⟨l0,l1,l2,lf0,lf1,lf2,llt⟩:=row3 (hC.2 _ (mcO _ mcS));obtain⟨k0,k1,k2,kf0,kf1,kf2,klt⟩:=row3 (hC.2 _ (mcO _ (mcO _ mcS)));have yW:z02 _ B _ _:=(hC.2 _ (mcO _ (mcO _ (mcO _ mcS))));have ylt:=yW.lt;obtain⟨p0,p1,p2,p3,p4,p5,ltS⟩:=row6 (hC.2 _ (mcO _ (mcO _ (mcO _ (mcO _ mcS)))));have hK7:=hC;go_wp2_with fail;clear hC l0 l1 l2 lf0 lf1 lf2 llt k0 k1 k2 kf0 kf1 kf2 klt p0 p1 p2 p3 p4 p5 ltS yW ylt u0 u1 uf0 uf1 ult hK5 hB6;refine z0o (C:=Blk w [(w4.heap.size,cT #[A D wl,A D wl] 113 (0,0)),(L,cT #[A D (y.reg d).k,A D (y.reg d).l,A D (y.reg d).h] 186 (0,0)),(K,cT #[A D bk,A D bl,A D bh] 186 (0,0)),(B,cT (z03 p y) 190 (0,0)),(w.heap.size,cT #[A D c,A D d,A D s,.bool r,A D o,A D n] 121 (0,0))]) (n0:=w.heap.size) 8 [] [] kR kR (fun d _ _ _ _ h=>by cases d<;>exact h) (Blk.stable _ _) (Blk.room0 _ _) hK7.drew trivial ?_;simp only[lV,lX,lY,lZ,lJ,Nat.reduceAdd]
  repeat(first
   |(refine z0q kI ?_;simp only[pS])
   |(refine z0c kI (v:=?_) ?_ ?_;rotate_left;(intro w2 hC;obtain⟨u0,u1,uf0,uf1,ult⟩:=row2 (hC.2 _ mcS);obtain⟨l0,l1,l2,lf0,lf1,lf2,llt⟩:=row3 (hC.2 _ (mcO _ mcS));obtain⟨k0,k1,k2,kf0,kf1,kf2,klt⟩:=row3 (hC.2 _ (mcO _ (mcO _ mcS)));have yW:z02 _ B _ _:=(hC.2 _ (mcO _ (mcO _ (mcO _ mcS))));have ylt:=yW.lt;obtain⟨p0,p1,p2,p3,p4,p5,ltS⟩:=row6 (hC.2 _ (mcO _ (mcO _ (mcO _ (mcO _ mcS)))));go_simp;try with_reducible rfl);simp only[pS]))
  refine z11 ?_;intro w8 hC hB8;obtain⟨u0,u1,uf0,uf1,ult⟩:=row2 (hC.2 _ mcS);obtain⟨l0,l1,l2,lf0,lf1,lf2,llt⟩:=row3 (hC.2 _ (mcO _ mcS));obtain⟨k0,k1,k2,kf0,kf1,kf2,klt⟩:=row3 (hC.2 _ (mcO _ (mcO _ mcS)));have yW:z02 _ B _ _:=(hC.2 _ (mcO _ (mcO _ (mcO _ mcS))));have ylt:=yW.lt;obtain⟨p0,p1,p2,p3,p4,p5,ltS⟩:=row6 (hC.2 _ (mcO _ (mcO _ (mcO _ (mcO _ mcS)))));obtain⟨i0,i1,i2⟩:=yW.slot ht;have if0:=yW.frozen (34+t*3);have if1:=yW.frozen (34+t*3+1);have if2:=yW.frozen (34+t*3+2);have HK:=z09 hC.1 B;go_wp2_with fail;go_ret;exact⟨rfl,kK,yW.slot3 t bk bl bh⟩
def z4k:=fun B d s c o n p r y hd hs bk bl bh HB=>(@zB8 B d s c o n p r y hd hs bk bl bh HB).1
def zHo:=fun B d s c o n p r y hd hs bk bl bh HB=>(@zB8 B d s c o n p r y hd hs bk bl bh HB).2.1
def zHp:=fun B d s c o n p r y hd hs bk bl bh HB=>(@zB8 B d s c o n p r y hd hs bk bl bh HB).2.2
theorem zM3{B d s:Nat}{c o n p:Int}{r:Bool}{y:Way}(hd:d<11)(hs:s<11)(hy:y.Ok)(ho:In64 o){w:World}(hW:z02 w B p y):
  Calls tP 92 #[pT (some ⟨B,0,none⟩),.agg #[A D c,A D d,A D s,.bool r,A D o,A D n]] w fun e w'=>e= rT (A D (y.store (y.reg d) (y.second s r n) o).1)/\Kept B w w'/\z02 w' B p (y.store (y.reg d) (y.second s r n) o).2:=by
 have HR:=fun W:World=>zCe (y.reg d) o (hy.reg d hd) ho W;have mv: ∀{E:Int}{e:Ending}{w':World},(e= rT (A D E)/\Below w.heap.size w w')->e= rT (A D E)/\Kept B w w'/\z02 w' B p y:=fun h=>⟨h.1,z09 h.2 B,hW.later h.2⟩;unfold Way.store;rcases hv:y.second s r n with⟨bk,bl,bh⟩
 rcases e:z0i (y.reg d) o with⟨⟨wl,wh⟩,E⟩
 rw[e]at HR
 by_cases hE:E=0
 ·subst hE
  rw[if_neg kS];have er:(z0i (y.reg d) o).2=0:=by rw[e]
  obtain⟨hk,e1,r1,r2⟩:=z4g er;have ot:=z7x (hy.reg d hd) ho;rw[e]at e1;rw[<-e1]at r1 r2 ot;have k0:=(hy.reg d hd).1;have k5:=(hy.reg d hd).2.1
  by_cases h2:(y.reg d).k=2
  ·rw[if_pos h2];exact(z4k B d s c o n p r y hd hs bk bl bh hv wl wh 0 HR 6 (Or.inr (Or.inl ⟨rfl,by simpa using h2,rfl⟩)) w hW).mono fun _ _ h=>mv h
  rw[if_neg h2]
  by_cases h0:bk=0
  ·rw[if_pos h0];exact(z4k B d s c o n p r y hd hs bk bl bh hv wl wh 0 HR 8 (Or.inr (Or.inr (Or.inl ⟨rfl,by simpa using h2,by simpa using h0,rfl⟩))) w hW).mono fun _ _ h=>mv h
  rw[if_neg h0]
  by_cases h4:(y.reg d).k=4
  ·rw[if_pos h4];exact(z4k B d s c o n p r y hd hs bk bl bh hv wl wh 0 HR _ (Or.inr (Or.inr (Or.inr ⟨rfl,by simpa using h2,by simpa using h0,by simpa using h4,rfl⟩))) w hW).mono fun _ _ h=>mv h
  rw[if_neg h4];have h3:(y.reg d).k=3:=kO;rw[h3]at r1 r2;change-16<=wl at r1
  change wh<= -1 at r2
  change wl<=wh at ot
  by_cases hq:wl=wh
  ·subst hq
   rw[if_neg kS];obtain⟨t,et⟩:=Int.eq_ofNat_of_zero_le (show 0<=wl+16 by omega);have e2:IntKind.i64.wrap (wl+16)=(t:Int):=by rw[IntWalk.i64_left,z08 kO kO];exact et
   show Calls _ _ _ _ fun e w'=>e= rT (A D 0)/\Kept B w w'/\z02 w' B p (y.putSlot (wl+16).toNat ⟨bk,bl,bh⟩);rw[show(wl+16).toNat=t by omega];exact zHp B d s c o n p r y hd hs bk bl bh hv wl 0 HR t kO e2 rfl (by simpa using h2) (by simpa using h0) (by simpa using h4) w hW
  ·rw[if_pos hq]
   exact(zHo B d s c o n p r y hd hs bk bl bh hv wl wh 0 HR rfl (by simpa using h2) (by simpa using h0) (by simpa using h4) (fun e=>hq e.symm) w hW).mono fun _ _ h=>mv h
 rw[if_pos hE];exact(z4k B d s c o n p r y hd hs bk bl bh hv wl wh E HR E (Or.inl ⟨by simpa using hE,rfl⟩) w hW).mono fun _ _ h=>mv h
theorem Way.lose_put(y:Way):y.lose=((((y.putReg 1 kno0).putReg 2 kno0).putReg 3 kno0).putReg 4 kno0).putReg 5 kno0:=by
 unfold Way.lose Way.putReg;congr 1;funext i
 by_cases h:1<=i/\i<=5
 ·rw[if_pos h]
  rcases(show i=1\/i=2\/i=3\/i=4\/i=5 by omega)with rfl|rfl|rfl|rfl|rfl<;>rfl
 rw[if_neg h];show _=if i=5 then kno0 else if i=4 then kno0 else if i=3 then kno0 else if i=2 then kno0 else if i=1 then kno0 else y.reg i;rw[if_neg kO,if_neg kO,if_neg kO,if_neg kO,if_neg kO]
theorem z8i{w:World}{B:Nat}{p:Int}{y:Way}(hW:z02 w B p y): ∃w',(Builtin.clear_ #[259] 0 #[.slice (some ⟨B,4,none⟩) 5 10]).run tP w= .ok (.tuple #[]) w'/\Kept B w w'/\z02 w' B p y.lose:=by
 have hst:=run_storeCells_cells (P:=tP) B 4 (List.replicate 15 (A D 0)) 0 w (by
  intro j hj;rw[List.length_replicate]at hj;rw[hW.at _ kO];rfl) (by intro j hj;exact hW.frozen _) (by intro v hv';rw[List.eq_of_mem_replicate hv'];rfl)
 simp only[Nat.add_zero]at hst;have hzc:(Builtin.zeroCells (Value.agg #[A D 0,A D 0,A D 0]).cells 5).toList=List.replicate 15 (A D 0):=by first|rfl|kernel_rfl|(simp[Builtin.zeroCells];rfl)
 refine⟨w.setCells B 4 (List.replicate 15 (A D 0)),?_,?_,?_⟩
 ·generalize List.replicate 15 (Value.int .i64 0)=zs at hst hzc⊢
  simp[Builtin.clear_,run_underlying Tryz.underlying259,hzc,hst]
 ·show Kept B w (((((((((((((((w.setCell ⟨B,4,none⟩ _).setCell ⟨B,5,none⟩ _).setCell ⟨B,6,none⟩ _).setCell ⟨B,7,none⟩ _).setCell ⟨B,8,none⟩ _).setCell ⟨B,9,none⟩ _).setCell ⟨B,10,none⟩ _).setCell ⟨B,11,none⟩ _).setCell ⟨B,12,none⟩ _).setCell ⟨B,13,none⟩ _).setCell ⟨B,14,none⟩ _).setCell ⟨B,15,none⟩ _).setCell ⟨B,16,none⟩ _).setCell ⟨B,17,none⟩ _).setCell ⟨B,18,none⟩ _)
  repeat with_reducible refine z0v ?_ _ _
  exact z12 B w
 rw[y.lose_put];exact((((hW.reg3 (d:=1) kD 0 0 0).reg3 (d:=2) kD 0 0 0).reg3 (d:=3) kD 0 0 0).reg3 (d:=4) kD 0 0 0).reg3 (d:=5) kD 0 0 0
theorem zH4(B:Nat)(p:Int)(y:Way)(E:Int)(HW:Hid (z0s ⟨(y.reg 1).k,(y.reg 1).l,(y.reg 1).h⟩=E))(hE:(E !=0)=true)(w:World)(hW:z02 w B p y):(zR 93 #[pT (some ⟨B,0,none⟩),A D 1] w (A D E))/\(zR 93 #[pT (some ⟨B,0,none⟩),A D 3] w (A D E)):=by
 refine⟨?_,?_⟩
 all_goals
  have hB:=hW.lt;obtain⟨h0,h1,h2⟩:=hW.reg (d:=1) kD;simp only[Nat.reduceMul,Nat.reduceAdd]at h0 h1 h2
 all_goals
  go_enter Tryz.func93,Tryz.ntmps93
  go_wp2_with(first
   |(go_at_call 90;refine(z3j _ _ _ _).mono ?_;rintro e w1 ⟨rfl,hb1⟩;rw[HW.out];have hW1:z02 w1 B p y:=hW.later hb1;have hB1:=hW1.lt)
   |fail)
  go_ret;exact⟨rfl,hb1⟩
def zPe:=fun B p y E HW hE w hW=>(@zH4 B p y E HW hE w hW).1
def zPd:=fun B p y E HW hE w hW=>(@zH4 B p y E HW hE w hW).2
theorem zMh(B:Nat)(p:Int)(y:Way)(HW:Hid (z0s ⟨(y.reg 1).k,(y.reg 1).l,(y.reg 1).h⟩=0))(w:World)(hW:z02 w B p y):
  Calls tP 93 #[pT (some ⟨B,0,none⟩),A D 1] w fun e w'=>e= rT (A D 0)/\Kept B w w'/\z02 w' B p (y.lose.putReg 0 ⟨5,0,0⟩):=by
 have hB:=hW.lt;obtain⟨h0,h1,h2⟩:=hW.reg (d:=1) kD;simp only[Nat.reduceMul,Nat.reduceAdd]at h0 h1 h2;go_enter Tryz.func93,Tryz.ntmps93
 go_wp2_with(first
  |(go_at_call 90;refine(z3j _ _ _ _).mono ?_;rintro e w1 ⟨rfl,hb1⟩;rw[HW.out];have hW1:z02 w1 B p y:=hW.later hb1;have hB1:=hW1.lt)
  |fail)
 obtain⟨wc,hc,hkc,hmc⟩:=z8i hW1;rw[hc];clear hc;have hBc:=hmc.lt;obtain⟨i0,i1,i2⟩:=hmc.reg (d:=0) kD;simp only[Nat.reduceMul,Nat.reduceAdd]at i0 i1 i2;have f0:=hmc.frozen 1;have f1:=hmc.frozen 2;have f2:=hmc.frozen 3;go_wp2_with fail;go_ret;have HK:Kept B w wc:=z29 (z09 hb1 B) hkc;exact⟨rfl,kK,hmc.put0 5 0 0⟩
theorem zMg(B:Nat)(p:Int)(y:Way)(w:World)(hW:z02 w B p y):
  Calls tP 93 #[pT (some ⟨B,0,none⟩),A D 2] w fun e w'=>e= rT (A D 0)/\Kept B w w'/\z02 w' B p (y.lose.putReg 0 ⟨1,(-9223372036854775808),9223372036854775807⟩):=by
 have hB:=hW.lt;go_enter Tryz.func93,Tryz.ntmps93;go_wp2_with fail;obtain⟨wc,hc,hkc,hmc⟩:=z8i hW;rw[hc];clear hc;have hBc:=hmc.lt;go_wp2_with fail;refine z0o (C:=Blk wc [(B,cT (z03 p y.lose) 190 (0,0))]) (n0:=wc.heap.size) 6 [] [] kR kR (fun d _ _ _ _ h=>by cases d<;>exact h) (Blk.stable _ _) (Blk.room0 _ _) (((Blk.nil (bF _ _)).cons hmc).drew) trivial ?_;simp only[lV,lX,lY,lZ,lJ,Nat.reduceAdd]
 repeat(first
  |(refine z0q kI ?_;simp only[pS])
  |(refine z0c kI (v:=?_) ?_ ?_;rotate_left;(intro w2 hC;have yW:z02 _ B _ _:=(hC.2 _ mcS);have ylt:=yW.lt;go_simp;try with_reducible rfl);simp only[pS])
  |(refine z18 kI ?_;apply Exists.intro;refine⟨fun w2 hC=>?_,?_⟩;(have yW:z02 _ B _ _:=(hC.2 _ mcS);have ylt:=yW.lt;go_simp;apply z1k;first|(go_at_call 117;exact z62 w2)|(go_at_call 116;exact z1s _ _ w2));simp only[pS]))
 refine z11 ?_;intro w5 hC hB5;have yW:z02 _ B _ _:=(hC.2 _ mcS);have ylt:=yW.lt;obtain⟨i0,i1,i2⟩:=yW.reg (d:=0) kD;simp only[Nat.reduceMul,Nat.reduceAdd]at i0 i1 i2;have f0:=yW.frozen 1;have f1:=yW.frozen 2;have f2:=yW.frozen 3;simp only[Kno.v,z10];go_wp2_with fail;go_ret;have HK:Kept B w w5:=z1x (hkc) hC.1;exact⟨rfl,kK,yW.put0 1 (-9223372036854775808) 9223372036854775807⟩
theorem zMi(B:Nat)(p:Int)(y:Way)(HW:Hid (z0s ⟨(y.reg 1).k,(y.reg 1).l,(y.reg 1).h⟩=0))(w:World)(hW:z02 w B p y):
  Calls tP 93 #[pT (some ⟨B,0,none⟩),A D 3] w fun e w'=>e= rT (A D 0)/\Kept B w w'/\z02 w' B p (y.lose.putReg 0 ⟨1,0,0⟩):=by
 have hB:=hW.lt;obtain⟨h0,h1,h2⟩:=hW.reg (d:=1) kD;simp only[Nat.reduceMul,Nat.reduceAdd]at h0 h1 h2;go_enter Tryz.func93,Tryz.ntmps93
 go_wp2_with(first
  |(go_at_call 90;refine(z3j _ _ _ _).mono ?_;rintro e w1 ⟨rfl,hb1⟩;rw[HW.out];have hW1:z02 w1 B p y:=hW.later hb1;have hB1:=hW1.lt)
  |fail)
 obtain⟨wc,hc,hkc,hmc⟩:=z8i hW1;rw[hc];clear hc;have hBc:=hmc.lt;go_wp2_with fail;refine z0o (C:=Blk wc [(B,cT (z03 p y.lose) 190 (0,0))]) (n0:=wc.heap.size) 6 [] [] kR kR (fun d _ _ _ _ h=>by cases d<;>exact h) (Blk.stable _ _) (Blk.room0 _ _) (((Blk.nil (bF _ _)).cons hmc).drew) trivial ?_;simp only[lV,lX,lY,lZ,lJ,Nat.reduceAdd]
 repeat(first
  |(refine z0q kI ?_;simp only[pS])
  |(refine z0c kI (v:=?_) ?_ ?_;rotate_left;(intro w2 hC;have yW:z02 _ B _ _:=(hC.2 _ mcS);have ylt:=yW.lt;go_simp;try with_reducible rfl);simp only[pS])
  |(refine z18 kI ?_;apply Exists.intro;refine⟨fun w2 hC=>?_,?_⟩;(have yW:z02 _ B _ _:=(hC.2 _ mcS);have ylt:=yW.lt;go_simp;apply z1k;first|(go_at_call 86;exact z4f _ w2)|(go_at_call 116;exact z1s _ _ w2));simp only[pS]))
 refine z11 ?_;intro w5 hC hB5;have yW:z02 _ B _ _:=(hC.2 _ mcS);have ylt:=yW.lt;obtain⟨i0,i1,i2⟩:=yW.reg (d:=0) kD;simp only[Nat.reduceMul,Nat.reduceAdd]at i0 i1 i2;have f0:=yW.frozen 1;have f1:=yW.frozen 2;have f2:=yW.frozen 3;simp only[Kno.v,z10];go_wp2_with fail;go_ret;have HK:Kept B w w5:=z1x ((z29 (z09 hb1 B) hkc)) hC.1;exact⟨rfl,kK,yW.put0 1 0 0⟩
theorem zPf{B:Nat}{p what:Int}{y:Way}(hw:what=1\/what=2\/what=3){w:World}(hW:z02 w B p y):
  Calls tP 93 #[pT (some ⟨B,0,none⟩),A D what] w fun e w'=>e= rT (A D (y.call what).1)/\Kept B w w'/\z02 w' B p (y.call what).2:=by
 have mv: ∀{E:Int}{e:Ending}{w':World},(e= rT (A D E)/\Below w.heap.size w w')->e= rT (A D E)/\Kept B w w'/\z02 w' B p y:=fun h=>⟨h.1,z09 h.2 B,hW.later h.2⟩;unfold Way.call;rcases hw with rfl|rfl|rfl
 ·by_cases h:z0s (y.reg 1)=0
  ·rw[if_neg (fun e=>e.2 h),if_pos rfl];exact zMh B p y h w hW
  ·rw[if_pos ⟨Or.inl rfl,h⟩];exact(zPe B p y _ rfl (by simpa using h) w hW).mono fun _ _ h=>mv h
 ·rw[if_neg (by intro e;omega),if_neg kD,if_pos rfl];exact zMg B p y w hW
 by_cases h:z0s (y.reg 1)=0
 ·rw[if_neg (fun e=>e.2 h),if_neg kD,if_neg kD];exact zMi B p y h w hW
 rw[if_pos ⟨Or.inr rfl,h⟩];exact(zPd B p y _ rfl (by simpa using h) w hW).mono fun _ _ h=>mv h
end
section
set_option maxHeartbeats 40000000
set_option maxRecDepth 1000000
attribute [local simp] dwS
theorem kOp{P:Prop}(h:P:=by
 unfold zR;go_in
 go_wp2;refine wp_loop_rounds 6 ?_
 repeat any_goals(rw[rounds_succ];go_wp2)
 all_goals go_ret
 all_goals exact⟨rfl,kB⟩):P:=h
theorem zXt(c:Int)(h:15<=c/\c<=24)(w:World):zR 77 #[A D c] w (A D (oppV c)):=by
 rcases(show c=15\/c=16\/c=17\/c=18\/c=19\/c=20\/c=21\/c=22\/c=23\/c=24 by omega)with rfl|rfl|rfl|rfl|rfl|rfl|rfl|rfl|rfl|rfl<;>exact kOp
theorem kPl{P:Prop}(h:P:=by
 unfold zR;go_in
 go_wp2_with fail
 all_goals exact bodyPost_ret (by simp[results,Tryz.results104,Tryz.results105,go_sem];try rfl) rfl ⟨rfl,kB⟩):P:=h
theorem zTj(al ah bl bh:Int)(w:World):zR 104 #[.agg #[A D al,A D ah],.agg #[A D bl,A D bh]] w (.tuple #[.agg #[A D (((z2u al ah bl bh).1).1),A D (((z2u al ah bl bh).1).2)],.bool ((z2u al ah bl bh).2)]):=by
 rcases dc (min ah bh<max al bl)with⟨h,d⟩|⟨h,d⟩
 ·rw[show z2u al ah bl bh=((0,0),false)from if_neg kO]
  exact kPl
 rw[show z2u al ah bl bh=((max al bl,min ah bh),true)from if_pos kO];exact kPl
theorem kCu{P:Prop}(h:P:=by
 rcases dce bl bh with⟨e1,f1⟩|⟨e1,f1⟩<;>rcases dce al ah with⟨e2,f2⟩|⟨e2,f2⟩<;>rcases dce al bl with⟨e3,f3⟩|⟨e3,f3⟩<;>rcases dce ah bl with⟨e4,f4⟩|⟨e4,f4⟩
 all_goals
  have g1:=e1.out;have g2:=e2.out;have g3:=e3.out;have g4:=e4.out;have l1:(al !=ah)=!(al==ah):=rfl;rw[f2]at l1
  first
  |(exfalso;omega)
  |((try clear p);clear g1 g2 g3 g4;exact kPl)):P:=h
theorem zY1(al ah bl bh:Int)(pal: -9223372036854775808<=al)(qah:ah<=9223372036854775807)(oa:al<=ah)(w:World):zR 105 #[.agg #[A D al,A D ah],.agg #[A D bl,A D bh]] w (.agg #[A D ((cutV al ah bl bh).1),A D ((cutV al ah bl bh).2)]):=by
 unfold cutV
 by_cases p:al=ah
 ·rw[if_pos p]
  exact kCu
 have n1:=p;clear p
 by_cases p:bl=al/\bh=al
 ·rw[if_neg n1,if_pos p]
  exact kCu
 have n2:=p;clear p
 by_cases p:bl=ah/\bh=ah
 ·rw[if_neg n1,if_neg n2,if_pos p]
  exact kCu
 have n3:=p;clear p;rw[if_neg n1,if_neg n2,if_neg n3];exact kCu
end
section
set_option maxHeartbeats 40000000
set_option maxRecDepth 1000000
attribute [local simp] dwS
abbrev narT(x:(Int×Int)×(Int×Int)×Bool):Value:= .tuple #[.agg #[A D x.1.1,A D x.1.2],.agg #[A D x.2.1.1,A D x.2.1.2],.bool x.2.2]
abbrev NarC(c al ah bl bh:Int)(k:(Int×Int)×(Int×Int)×Bool):Prop:= ∀w,zR 78 #[A D c,.agg #[A D al,A D ah],.agg #[A D bl,A D bh]] w (narT k)
theorem kNa{P:Prop}(h:P:=by
 intro w;unfold zR;go_in
 iterate 4 all_goals(try go_region);all_goals go_wp2_with(first|(go_at_call 104;refine cR (zTj _ _ _ _ _) ?_;intro w1 hb1;have hM1:=Mm.later (W:=w) kMm hb1;have F:=hM1.x;simp[Mx,mput,nz]at F;have hbw:=hM1.1)|(go_at_call 78;refine cR (H _) ?_;intro w1 hb1;have hM1:=Mm.later (W:=w) kMm hb1;have F:=hM1.x;simp[Mx,mput,nz]at F;have hbw:=hM1.1))
 all_goals exact bodyPost_ret (by simp[results,Tryz.results78,go_sem, *];try rfl) rfl ⟨rfl,kB⟩):P:=h
section
variable {al ah bl bh:Int} {k:(Int×Int)×(Int×Int)×Bool}
theorem n_15:NarC 15 al ah bl bh (narV 15 al ah bl bh):=by
 rw[zIz];exact kNa
theorem n_23(H:NarC 21 bl bh al ah k):NarC 23 al ah bl bh (z3a k):=by
 unfold z3a;obtain⟨⟨k1,k2⟩,⟨k3,k4⟩,ok⟩:=k;exact kNa
theorem n_24(H:NarC 22 bl bh al ah k):NarC 24 al ah bl bh (z3a k):=by
 unfold z3a;obtain⟨⟨k1,k2⟩,⟨k3,k4⟩,ok⟩:=k;exact kNa
theorem n_17(H:NarC 19 bl bh al ah k):NarC 17 al ah bl bh (z3a k):=by
 unfold z3a;obtain⟨⟨k1,k2⟩,⟨k3,k4⟩,ok⟩:=k;exact kNa
theorem n_18(H:NarC 20 bl bh al ah k):NarC 18 al ah bl bh (z3a k):=by
 unfold z3a;obtain⟨⟨k1,k2⟩,⟨k3,k4⟩,ok⟩:=k;exact kNa
theorem kNu{P:Prop}(h:P:=by
 rcases dc (bl<0)with⟨hb,db⟩|⟨hb,db⟩
 ·rw[if_pos hb]
  exact kNa
 rw[if_neg hb]
 by_cases hm:max al 0<=ah
 ·have m1:z2u al ah 0 9223372036854775807=((max al 0,ah),true):=by unfold z2u;rw[if_pos kO,show min ah 9223372036854775807=ah by omega]
  have H:=hN hm;unfold z3a;obtain⟨⟨k1,k2⟩,⟨k3,k4⟩,ok⟩:=k;exact kNa
 have m1:z2u al ah 0 9223372036854775807=((0,0),false):=if_neg kO;rw[show z3a k=((0,0),(0,0),false)by rw[hk hm];rfl];exact kNa):P:=h
theorem n_19(qah:ah<=9223372036854775807)(hN:max al 0<=ah->NarC 21 bl bh (max al 0) ah k)(hk: ¬max al 0<=ah->k=((0,0),(0,0),false)):NarC 19 al ah bl bh (if bl<0 then((al,ah),(bl,bh),true)else z3a k):=by exact kNu
theorem n_20(qah:ah<=9223372036854775807)(hN:max al 0<=ah->NarC 22 bl bh (max al 0) ah k)(hk: ¬max al 0<=ah->k=((0,0),(0,0),false)):NarC 20 al ah bl bh (if bl<0 then((al,ah),(bl,bh),true)else z3a k):=by exact kNu
theorem n_21(hB:Bds al ah bl bh):NarC 21 al ah bl bh (z3a (belV 1 bl bh al ah)):=by
 obtain⟨pal,oa,qah,pbl,ob,qbh⟩:=hB;unfold belV z3a;rcases dce bl 9223372036854775807 with⟨e1,f1⟩|⟨e1,f1⟩
 ·rw[if_neg (by have:=e1.out;omega)]
  exact kNa
 rcases dce ah (-9223372036854775808)with⟨e2,f2⟩|⟨e2,f2⟩
 ·rw[if_neg (by have:=e2.out;omega)]
  exact kNa
 have l1:bl+1<=9223372036854775807:=by have:=e1.out;omega
 have l2: -9223372036854775808<=ah-1:=by have:=e2.out;omega
 by_cases hy:bl+1<=ah
 ·rw[if_pos ⟨ob,hy⟩]
  have m1:z2u al ah (bl+1) 9223372036854775807=((max al (bl+1),ah),true):=by unfold z2u;rw[if_pos kO,show min ah 9223372036854775807=ah by omega]
  have m2:z2u bl bh (-9223372036854775808) (ah-1)=((bl,min bh (ah-1)),true):=by unfold z2u;rw[if_pos kO,show max bl (-9223372036854775808)=bl by omega]
  exact kNa
 rw[if_neg kO];have m1:z2u al ah (bl+1) 9223372036854775807=((0,0),false):=if_neg kO;have m2:z2u bl bh (-9223372036854775808) (ah-1)=((0,0),false):=if_neg kO;exact kNa
theorem n_22(hB:Bds al ah bl bh):NarC 22 al ah bl bh (z3a (belV 0 bl bh al ah)):=by
 obtain⟨pal,oa,qah,pbl,ob,qbh⟩:=hB;unfold belV z3a;simp only[Int.add_zero,Int.sub_zero]
 by_cases hy:bl<=ah
 ·rw[if_pos ⟨ob,hy⟩]
  have m1:z2u al ah bl 9223372036854775807=((max al bl,ah),true):=by unfold z2u;rw[if_pos kO,show min ah 9223372036854775807=ah by omega]
  have m2:z2u bl bh (-9223372036854775808) ah=((bl,min bh ah),true):=by unfold z2u;rw[if_pos kO,show max bl (-9223372036854775808)=bl by omega]
  exact kNa
 rw[if_neg kO];have m1:z2u al ah bl 9223372036854775807=((0,0),false):=if_neg kO;have m2:z2u bl bh (-9223372036854775808) ah=((0,0),false):=if_neg kO;exact kNa
theorem n_no(c:Int)(hc:c<15\/24<c):NarC c al ah bl bh ((al,ah),(bl,bh),true):=by
 have e: ∀k,15<=k->k<=24->(c==k)=false:=fun k _ _=>by simp;omega
 have e1:=e 15 kD kD;have e2:=e 16 kD kD;have e3:=e 17 kD kD;have e4:=e 18 kD kD;have e5:=e 19 kD kD;have e6:=e 20 kD kD;have e7:=e 21 kD kD;have e8:=e 22 kD kD;have e9:=e 23 kD kD;have e10:=e 24 kD kD;clear e;exact kNa
theorem n_16n(he:al=ah):NarC 16 al ah al ah ((0,0),(0,0),false):=by
 subst he;exact kNa
end
end
section
set_option maxHeartbeats 40000000
set_option maxRecDepth 1000000
attribute [local simp] dwS
theorem kNe{P:Prop}(h:P:=by
 exact bodyPost_ret (by simp[results,Tryz.results145,Tryz.results153,Tryz.results146,Tryz.results147,Tryz.results134,go_sem, *];try rfl) rfl ⟨by first|rfl|(simp[*];done),kB⟩):P:=h
theorem kNw{P:Prop}(h:P:=by
 unfold zR bd;go_in
 go_wp2_with fail;exact kNe):P:=h
theorem zYg(al ah bl bh:Int)(w:World):zR 145 #[bd al ah,bd bl bh] w (.tuple #[bd (z2u al ah bl bh).1.1 (z2u al ah bl bh).1.2,.bool (z2u al ah bl bh).2]):=by
 rcases dc (min ah bh<max al bl)with⟨h,d⟩|⟨h,d⟩
 ·rw[show z2u al ah bl bh=((0,0),false)from if_neg kO]
  exact kNw
 rw[show z2u al ah bl bh=((max al bl,min ah bh),true)from if_pos kO];exact kNw
theorem opp_is(c:Int)(h:15<=c/\c<=24)(w:World):zS 128 #[A D c] w (A D (oppV c)):=by
 rcases(show c=15\/c=16\/c=17\/c=18\/c=19\/c=20\/c=21\/c=22\/c=23\/c=24 by omega)with rfl|rfl|rfl|rfl|rfl|rfl|rfl|rfl|rfl|rfl
 all_goals
  unfold zS;go_in
  go_wp2;go_ret;exact⟨rfl,rfl⟩
theorem cut_is(e l h:Int)(bk:Nat)(w:World)(hk:w.heap[bk]?=some (cT #[A D l,A D h] 113 (0,0))):zR 155 #[A D e,pT (some ⟨bk,0,none⟩)] w (.bool (l==e&&h==e)):=by
 have hM:=Mm.cons (Mm.start w) hk;unfold zR;rcases dce l e with⟨-,f1⟩|⟨-,f1⟩<;>rcases dce h e with⟨-,f2⟩|⟨-,f2⟩<;>rw[f1,f2]
 all_goals
  go_in
  go_wp2_with fail;refine flo (W:=w) 3 [] hM kR kR kQp ?_;refine kFl ?_;intro w6 hC;have hbw:=hC.1;go_wp2_with fail;go_ret;exact⟨by first|rfl|simp,hbw⟩
theorem kNo{P:Prop}(h:P:=by
 unfold zR bd;go_in
 go_wp2_with fail;refine flo (W:=w) 4 [] kMm kR kR kQp ?_;refine kFl ?_;intro w6 hC;have F:=hC.x;simp[Mx,mput,nz]at F;have hbw:=hC.1;have hbk:=hC.row (g:=w.heap.size+1) (cs:=#[A D bl,A D bh]) (t:=113) (by simp[mput,nz]);go_wp2_with(go_at_call 155;refine cR (cut_is _ _ _ _ _ hbk) ?_;intro w1 hb1;replace hC:=hC.later hb1;clear F hbk;have F:=hC.x;simp[Mx,mput,nz]at F;replace hbw:=hC.1;have hbk:=hC.row (g:=w.heap.size+1) (cs:=#[A D bl,A D bh]) (t:=113) (by simp[mput,nz]));exact kNe):P:=h
theorem kNc{P:Prop}(h:P:=by
 rcases dce bl al with⟨e1,f1⟩|⟨e1,f1⟩<;>rcases dce bh al with⟨e3,f3⟩|⟨e3,f3⟩<;>rcases dce bl ah with⟨e4,f4⟩|⟨e4,f4⟩<;>rcases dce bh ah with⟨e5,f5⟩|⟨e5,f5⟩
 all_goals
  have g1:=e1.out;have g3:=e3.out;have g4:=e4.out;have g5:=e5.out
  first
  |(exfalso;omega)
  |((try clear p);(try clear q);clear g1 g3 g4 g5;exact kNo)):P:=h
theorem zM2(al ah bl bh:Int)(pal: -9223372036854775808<=al)(qah:ah<=9223372036854775807)(oa:al<=ah)(w:World):zR 153 #[bd al ah,bd bl bh] w (bd (cutV al ah bl bh).1 (cutV al ah bl bh).2):=by
 unfold cutV;rcases dce ah al with⟨e2,f2⟩|⟨e2,f2⟩
 ·rw[if_pos e2.out.symm]
  exact kNo
 rw[if_neg fun e=>e2.out e.symm];have o1:al<ah:=by have:=e2.out;omega
 by_cases p:bl=al/\bh=al
 ·rw[if_pos p]
  exact kNc
 rw[if_neg p]
 by_cases q:bl=ah/\bh=ah
 ·rw[if_pos q]
  exact kNc
 rw[if_neg q];exact kNc
end
section
set_option maxHeartbeats 40000000
set_option maxRecDepth 1000000
attribute [local simp] dwS
section
variable (al ah bl bh:Int) (w:World)
theorem kNb{P:Prop}(h:P:=by
 unfold zR bd;go_in
 iterate 2 all_goals(try go_region);all_goals go_wp2_with(go_at_call 121;refine cS (zR5 _ _ _ _) ?_)
 all_goals exact kNe):P:=h
theorem bel(c g:Int)(hg:(c=23/\g=1)\/(c=24/\g=0))(hB:Bds al ah bl bh):zR 147 #[A D c,bd al ah,bd bl bh] w (narT (belV g al ah bl bh)):=by
 obtain⟨pal,oa,qah,pbl,ob,qbh⟩:=hB;have d1:decide (ah<al)=false:=kZ;unfold belV
 by_cases hy:al+g<=bh
 ·rw[if_pos ⟨oa,hy⟩]
  rcases hg with⟨rfl,rfl⟩|⟨rfl,rfl⟩
  ·have i1:isV 23 al bh=true:=by rw[zB3];simp;omega
   exact kNb
  ·have i1:isV 24 al bh=true:=by rw[zB2];simp;omega
   simp only[Int.add_zero,Int.sub_zero];exact kNb
 rw[if_neg fun h=>hy h.2];rcases hg with⟨rfl,rfl⟩|⟨rfl,rfl⟩
 ·have i1:isV 23 al bh=false:=by rw[zB3];simp;omega
  exact kNb
 have i1:isV 24 al bh=false:=by rw[zB2];simp;omega
 exact kNb
theorem asks_u{x y:Int}(h0:0<=x)(h1:x<=9223372036854775807)(h2:0<=y)(h3:y<=9223372036854775807):isV 19 x y=decide (x<y)/\isV 20 x y=decide (x<=y):=by
 have e1:=z4b h0 h1;have e2:=z4b h2 h3;rw[zD0,zCz];exact⟨decide_eq_decide.2 kO,decide_eq_decide.2 kO⟩
theorem zW2(c g:Int)(hg:(c=19/\g=1)\/(c=20/\g=0))(hB:Bds al ah bl bh):zR 147 #[A D c,bd al ah,bd bl bh] w (narT (unsV g al ah bl bh)):=by
 obtain⟨pal,oa,qah,pbl,ob,qbh⟩:=hB;unfold unsV;rcases dc (bl<0)with⟨hb,db⟩|⟨hb,db⟩
 ·rw[if_pos hb]
  rcases hg with⟨rfl,rfl⟩|⟨rfl,rfl⟩<;>exact kNb
 rw[if_neg hb];unfold belV;rcases dc (ah<max al 0)with⟨d0,d1⟩|⟨d0,d1⟩
 ·rw[if_neg kO]
  rcases hg with⟨rfl,rfl⟩|⟨rfl,rfl⟩<;>exact kNb
 obtain⟨u1,u2⟩:=asks_u (x:=max al 0) (y:=bh) kO kO kO qbh;have m1: -9223372036854775808<=max al 0/\max al 0<=9223372036854775807:=kO
 by_cases hy:max al 0+g<=bh
 ·rw[if_pos ⟨by omega,hy⟩]
  rcases hg with⟨rfl,rfl⟩|⟨rfl,rfl⟩
  ·have i1:isV 19 (max al 0) bh=true:=by rw[u1];simp only[decide_eq_true_eq];omega
   clear u1 u2;exact kNb
  ·have i1:isV 20 (max al 0) bh=true:=by rw[u2];simp only[decide_eq_true_eq];omega
   simp only[Int.add_zero,Int.sub_zero];clear u1 u2;exact kNb
 rw[if_neg fun h=>hy h.2];rcases hg with⟨rfl,rfl⟩|⟨rfl,rfl⟩
 ·have i1:isV 19 (max al 0) bh=false:=by rw[u1];simp only[decide_eq_false_iff_not];omega
  clear u1 u2;exact kNb
 have i1:isV 20 (max al 0) bh=false:=by rw[u2];simp only[decide_eq_false_iff_not];omega
 clear u1 u2;exact kNb
theorem kNp {P : Prop} (h : P := by
  unfold zR bd;go_in
  go_wp2_with fail;refine flo (W := w) 8 [] kMm kR kR kQp ?_;refine kFl ?_;intro w6 hC;have F := hC.x;simp [Mx, mput, nz] at F;have hbw := hC.1;go_wp2_with fail
  first
  | exact kNe
  | (refine flo (W := w) 6 [] hC kR kR kQp ?_
     refine kFl ?_;clear F hC;intro w7 hC;have F := hC.x;simp [Mx, mput, nz] at F;replace hbw := hC.1
     go_wp2_with fail;exact kNe)) : P := h
theorem zWh(hB:Bds al ah bl bh):zR 146 #[bd al ah,bd bl bh] w (narT (apV al ah bl bh)):=by
 obtain⟨pal,oa,qah,pbl,ob,qbh⟩:=hB;unfold apV
 by_cases hn:al=bl/\ah=bh/\ah=al
 ·rw[if_pos hn]
  obtain⟨rfl,rfl,rfl⟩:=hn;exact kNp
 rw[if_neg hn];rcases dce al bl with⟨e1,f1⟩|⟨e1,f1⟩
 rotate_left
 ·exact kNp
 rcases dce ah bh with⟨e2,f2⟩|⟨e2,f2⟩
 rotate_left
 ·exact kNp
 rcases dce ah al with⟨e3,f3⟩|⟨e3,f3⟩
 ·exact absurd ⟨e1.out,e2.out,e3.out⟩ hn
 exact kNp
end
end
section
set_option maxHeartbeats 40000000
set_option maxRecDepth 1000000
attribute [local simp] dwS
theorem z7g(w:World):zR 148 #[A D 17] w (A D 19)/\zR 148 #[A D 18] w (A D 20)/\zR 148 #[A D 21] w (A D 23)/\zR 148 #[A D 22] w (A D 24):=by
 refine⟨?_,?_,?_,?_⟩
 all_goals
  unfold zR;go_in
  go_wp2;go_ret;exact⟨rfl,kB⟩
theorem kNt{P:Prop}(h:P:=by
 unfold zR bd;go_in
 iterate 3 all_goals(try go_region);all_goals go_wp2_with(first|(go_at_call 145;refine cR (zYg _ _ _ _ _) ?_;intro w1 hb1;have hM1:=Mm.later (W:=w) kMm hb1;have F:=hM1.x;simp[Mx,mput,nz]at F;have hbw:=hM1.1)|(go_at_call 146;refine cR (zWh _ _ _ _ _ hB) ?_;intro w1 hb1;have hM1:=Mm.later (W:=w) kMm hb1;have F:=hM1.x;simp[Mx,mput,nz]at F;have hbw:=hM1.1)|(go_at_call 147;refine cR (H _) ?_;intro w1 hb1;have hM1:=Mm.later (W:=w) kMm hb1;have F:=hM1.x;simp[Mx,mput,nz]at F;have hbw:=hM1.1))
 all_goals exact kNe):P:=h
theorem kNs{P:Prop}(h:P:=by
 unfold z3a;obtain⟨⟨k1,k2⟩,⟨k3,k4⟩,ok⟩:=k;unfold zR bd;go_in
 go_wp2_with fail;refine floN (W:=w) 9 [7,8] [(#[A D 0,A D 0],113),(#[A D 0,A D 0],113)] kMm kR kR kQp ⟨⟨rfl,fun a w2 hC=>by go_simp;try rfl⟩,⟨rfl,fun a w2 hC=>by go_simp;try rfl⟩,trivial⟩ ?_;refine kFl ?_;intro L hL dL L' hL' dL' w6 hC;simp only[World.size_alloc]at dL dL';have F:=hC.x;simp[Mx,mput,nz]at F;have hbw:=hC.1;go_wp2_with fail;go_region
 all_goals go_wp2_with fail
 all_goals exact kNe):P:=h
section
variable (al ah bl bh:Int) (w:World)
theorem nar_d(hB:Bds al ah bl bh):zR 134 #[A D 15,bd al ah,bd bl bh] w (narT ((z2u al ah bl bh).1,(z2u al ah bl bh).1,(z2u al ah bl bh).2))/\zR 134 #[A D 16,bd al ah,bd bl bh] w (narT (apV al ah bl bh)):=by
 refine⟨?_,?_⟩<;>exact kNt
theorem zUk(c:Int)(hc:c=19\/c=20\/c=23\/c=24)(k:(Int×Int)×(Int×Int)×Bool)(H: ∀w,zR 147 #[A D c,bd al ah,bd bl bh] w (narT k)):zR 134 #[A D c,bd al ah,bd bl bh] w (narT k):=by
 unfold bd at H;rcases hc with rfl|rfl|rfl|rfl<;>exact kNt
theorem zUj(c c':Int)(hc:(c=17/\c'=19)\/(c=18/\c'=20)\/(c=21/\c'=23)\/(c=22/\c'=24))(k:(Int×Int)×(Int×Int)×Bool)(H: ∀w,zR 147 #[A D c',bd bl bh,bd al ah] w (narT k)):zR 134 #[A D c,bd al ah,bd bl bh] w (narT (z3a k)):=by
 unfold bd at H;rcases hc with⟨rfl,rfl⟩|⟨rfl,rfl⟩|⟨rfl,rfl⟩|⟨rfl,rfl⟩
 ·have H2:=fun w=>(z7g w).1
  exact kNs
 ·have H2:=fun w=>(z7g w).2.1
  exact kNs
 ·have H2:=fun w=>(z7g w).2.2.1
  exact kNs
 have H2:=fun w=>(z7g w).2.2.2;exact kNs
theorem nar_no(k:Int)(hk:k<15\/24<k):zR 134 #[A D k,bd al ah,bd bl bh] w (narT ((al,ah),(bl,bh),true)):=by
 have e: ∀j,15<=j->j<=24->(k==j)=false:=fun j _ _=>by simp;omega
 have e1:=e 15 kD kD;have e2:=e 16 kD kD;have e3:=e 17 kD kD;have e4:=e 18 kD kD;have e5:=e 19 kD kD;have e6:=e 20 kD kD;have e7:=e 21 kD kD;have e8:=e 22 kD kD;have e9:=e 23 kD kD;have e10:=e 24 kD kD;clear e hk;exact kNt
end
theorem zQo(c al ah bl bh:Int)(pal: -9223372036854775808<=al)(qal:al<=9223372036854775807)(pah: -9223372036854775808<=ah)(qah:ah<=9223372036854775807)(pbl: -9223372036854775808<=bl)(qbl:bl<=9223372036854775807)(pbh: -9223372036854775808<=bh)(qbh:bh<=9223372036854775807)(oa:al<=ah)(ob:bl<=bh)(w:World):zR 134 #[A D c,.agg #[A D al,A D ah],.agg #[A D bl,A D bh]] w (.tuple #[.agg #[A D (((narV c al ah bl bh).1).1),A D (((narV c al ah bl bh).1).2)],.agg #[A D (((narV c al ah bl bh).2.1).1),A D (((narV c al ah bl bh).2.1).2)],.bool ((narV c al ah bl bh).2.2)]):=by
 have hB:Bds al ah bl bh:=⟨pal,oa,qah,pbl,ob,qbh⟩;have hB':Bds bl bh al ah:=⟨pbl,ob,qbh,pal,oa,qah⟩;obtain⟨d15,d16⟩:=nar_d al ah bl bh w hB
 by_cases hc:c<15\/24<c
 ·rw[zQp _ _ _ _ hc]
  exact nar_no al ah bl bh w c hc
 rcases(show c=15\/c=16\/c=17\/c=18\/c=19\/c=20\/c=21\/c=22\/c=23\/c=24 by omega)with rfl|rfl|rfl|rfl|rfl|rfl|rfl|rfl|rfl|rfl
 ·rw[zIz];exact d15
 ·rw[zIy];exact d16
 ·rw[zIx];exact zUj al ah bl bh w 17 19 kD _ fun w=>zW2 bl bh al ah w 19 1 kD hB'
 ·rw[zIw];exact zUj al ah bl bh w 18 20 kD _ fun w=>zW2 bl bh al ah w 20 0 kD hB'
 ·rw[zIv];exact zUk al ah bl bh w 19 kD _ fun w=>zW2 al ah bl bh w 19 1 kD hB
 ·rw[zIu];exact zUk al ah bl bh w 20 kD _ fun w=>zW2 al ah bl bh w 20 0 kD hB
 ·rw[zIt];exact zUj al ah bl bh w 21 23 kD _ fun w=>bel bl bh al ah w 23 1 kD hB'
 ·rw[zIs];exact zUj al ah bl bh w 22 24 kD _ fun w=>bel bl bh al ah w 24 0 kD hB'
 ·rw[zIr];exact zUk al ah bl bh w 23 kD _ fun w=>bel al ah bl bh w 23 1 kD hB
 rw[zIq];exact zUk al ah bl bh w 24 kD _ fun w=>bel al ah bl bh w 24 0 kD hB
end
section
attribute [local simp] z0p z0j z04
theorem z7f(k l h:Int)(w:World):(Instr.field 186 (.agg #[A D k,A D l,A D h]) 1).run tP w= .ok (.agg #[A D l,A D h]) w:=kR
theorem zM5(B d s:Nat)(c o n p code:Int)(r:Bool)(y:Way)(hd:d<11)(hs:s<11)(bk bl bh:Int)(HB:Hid (y.second s r n=⟨bk,bl,bh⟩))(x0 x1 y0 y1:Int)(HN:Hid (∀W:World,zR 134 #[A D code,.agg #[A D (y.reg d).l,A D (y.reg d).h],.agg #[A D bl,A D bh]] W (.tuple #[.agg #[A D x0,A D x1],.agg #[A D y0,A D y1],.bool false])))(w:World)(hW:z02 w B p y):
  zR 127 #[pT (some ⟨B,0,none⟩),.agg #[A D c,A D d,A D s,.bool r,A D o,A D n],A D code] w (.bool false):=by
 have hK0:Blk w [(w.heap.size,cT #[A D c,A D d,A D s,.bool r,A D o,A D n] 121 (0,0)),(B,cT (z03 p y) 190 (0,0))] _:=((Blk.nil ((bF _ _).alloc (Nat.le_refl _) _)).cons (hW.alloc _)).cons (heap_alloc_new w (cT #[A D c,A D d,A D s,.bool r,A D o,A D n] 121));have hB:=hW.lt;have hs0:(0:Int)<=(s:Int):=kO;have hs1:(s:Int)<11:=kO;have hd0:(0:Int)<=(d:Int):=kO;have hd1:(d:Int)<11:=kO;have hfl:=z7f bk bl bh;go_enter Tryz.func127,Tryz.ntmps127;go_wp2_with fail;refine z0o (C:=Blk w [(w.heap.size,cT #[A D c,A D d,A D s,.bool r,A D o,A D n] 121 (0,0)),(B,cT (z03 p y) 190 (0,0))]) (n0:=w.heap.size+1) 18 [16,17] [cT #[A D 0,A D 0] 113 (0,0),cT #[A D 0,A D 0] 113 (0,0)] kR kR (fun d _ _ _ _ h=>by cases d<;>exact h) (Blk.stable _ _) (Blk.room w mcS) hK0.drew ⟨⟨rfl,fun a w2 hC=>by go_simp;try rfl⟩,⟨rfl,fun a w2 hC=>by go_simp;try rfl⟩,trivial⟩ ?_;simp only[lV,lX,lY,lZ,lQ,lJ,Nat.reduceAdd]
 repeat(first
  |(refine z0q kI ?_;simp only[pS])
  |(refine z0c kI (v:=?_) ?_ ?_;rotate_left;(intro w2 hC;obtain⟨p0,p1,p2,p3,p4,p5,ltS⟩:=row6 (hC.2 _ mcS);have yW:z02 _ B _ _:=(hC.2 _ (mcO _ mcS));have ylt:=yW.lt;obtain⟨i0,i1,i2⟩:=yW.reg hd;go_simp;try with_reducible rfl);simp only[pS])
  |(refine z18 kI ?_;apply Exists.intro;refine⟨fun w2 hC=>?_,?_⟩;(obtain⟨p0,p1,p2,p3,p4,p5,ltS⟩:=row6 (hC.2 _ mcS);have yW:z02 _ B _ _:=(hC.2 _ (mcO _ mcS));have ylt:=yW.lt;obtain⟨i0,i1,i2⟩:=yW.reg hd;go_simp;apply z1k;first|(go_at_call 112;exact(by have hq:=z39 B s c d o n r p y hs w2 yW;rw[HB.out]at hq;unfold Kno.v at hq;exact hq))|(go_at_call 134;exact HN.out w2));simp only[pS]))
 refine z11 ?_;intro L h5 g5 K h6 g6 w3 hC hB3;have hne:K≠L:=(FB.upd_none h6).1;have hne':L≠K:=fun e=>hne e.symm;have bK:=hB3 K _ (FB.at_new _ _ _);have bL:=hB3 L _ (FB.at_old hne' (FB.at_new _ _ _));obtain⟨l0,l1,lf0,lf1,llt⟩:=row2 bL;obtain⟨k0,k1,kf0,kf1,klt⟩:=row2 bK;obtain⟨p0,p1,p2,p3,p4,p5,ltS⟩:=row6 (hC.2 _ mcS);have yW:z02 _ B _ _:=(hC.2 _ (mcO _ mcS));have ylt:=yW.lt;obtain⟨i0,i1,i2⟩:=yW.reg hd;have hbw:=hC.1;have n1:w.heap.size≠L:=kO;have n2:B≠L:=kO;have n3:w.heap.size≠K:=kO;have n4:B≠K:=kO;simp only[z6y];go_wp2_with fail;go_ret;exact⟨rfl,kW⟩
theorem zFf(B d:Nat)(c o n p code:Int)(y:Way)(hd:d<11)(bk bl bh:Int)(HB:Hid (y.second d true n=⟨bk,bl,bh⟩))(x0 x1 y0 y1:Int)(HN:Hid (∀W:World,zR 134 #[A D code,.agg #[A D (y.reg d).l,A D (y.reg d).h],.agg #[A D bl,A D bh]] W (.tuple #[.agg #[A D x0,A D x1],.agg #[A D y0,A D y1],.bool true])))(w:World)(hW:z02 w B p y):
  zR 127 #[pT (some ⟨B,0,none⟩),.agg #[A D c,A D d,A D d,.bool true,A D o,A D n],A D code] w (.bool true):=by
 have hK0:Blk w [(w.heap.size,cT #[A D c,A D d,A D d,.bool true,A D o,A D n] 121 (0,0)),(B,cT (z03 p y) 190 (0,0))] _:=((Blk.nil ((bF _ _).alloc (Nat.le_refl _) _)).cons (hW.alloc _)).cons (heap_alloc_new w (cT #[A D c,A D d,A D d,.bool true,A D o,A D n] 121));have hB:=hW.lt;have hd0:(0:Int)<=(d:Int):=kO;have hd1:(d:Int)<11:=kO;have hfl:=z7f bk bl bh;go_enter Tryz.func127,Tryz.ntmps127;go_wp2_with fail;refine z0o (C:=Blk w [(w.heap.size,cT #[A D c,A D d,A D d,.bool true,A D o,A D n] 121 (0,0)),(B,cT (z03 p y) 190 (0,0))]) (n0:=w.heap.size+1) 18 [16,17] [cT #[A D 0,A D 0] 113 (0,0),cT #[A D 0,A D 0] 113 (0,0)] kR kR (fun d _ _ _ _ h=>by cases d<;>exact h) (Blk.stable _ _) (Blk.room w mcS) hK0.drew ⟨⟨rfl,fun a w2 hC=>by go_simp;try rfl⟩,⟨rfl,fun a w2 hC=>by go_simp;try rfl⟩,trivial⟩ ?_;simp only[lV,lX,lY,lZ,lQ,lJ,Nat.reduceAdd]
 repeat(first
  |(refine z0q kI ?_;simp only[pS])
  |(refine z0c kI (v:=?_) ?_ ?_;rotate_left;(intro w2 hC;obtain⟨p0,p1,p2,p3,p4,p5,ltS⟩:=row6 (hC.2 _ mcS);have yW:z02 _ B _ _:=(hC.2 _ (mcO _ mcS));have ylt:=yW.lt;obtain⟨i0,i1,i2⟩:=yW.reg hd;go_simp;try with_reducible rfl);simp only[pS])
  |(refine z18 kI ?_;apply Exists.intro;refine⟨fun w2 hC=>?_,?_⟩;(obtain⟨p0,p1,p2,p3,p4,p5,ltS⟩:=row6 (hC.2 _ mcS);have yW:z02 _ B _ _:=(hC.2 _ (mcO _ mcS));have ylt:=yW.lt;obtain⟨i0,i1,i2⟩:=yW.reg hd;go_simp;apply z1k;first|(go_at_call 112;exact(by have hq:=z39 B d c d o n true p y hd w2 yW;rw[HB.out]at hq;unfold Kno.v at hq;exact hq))|(go_at_call 134;exact HN.out w2));simp only[pS]))
 refine z11 ?_;intro L h5 g5 K h6 g6 w3 hC hB3;have hne:K≠L:=(FB.upd_none h6).1;have hne':L≠K:=fun e=>hne e.symm;have bK:=hB3 K _ (FB.at_new _ _ _);have bL:=hB3 L _ (FB.at_old hne' (FB.at_new _ _ _));obtain⟨l0,l1,lf0,lf1,llt⟩:=row2 bL;obtain⟨k0,k1,kf0,kf1,klt⟩:=row2 bK;obtain⟨p0,p1,p2,p3,p4,p5,ltS⟩:=row6 (hC.2 _ mcS);have yW:z02 _ B _ _:=(hC.2 _ (mcO _ mcS));have ylt:=yW.lt;obtain⟨i0,i1,i2⟩:=yW.reg hd;have hbw:=hC.1;have n1:w.heap.size≠L:=kO;have n2:B≠L:=kO;have n3:w.heap.size≠K:=kO;have n4:B≠K:=kO;simp only[z6y];go_wp2_with fail;go_ret;exact⟨rfl,kW⟩
theorem zHw(B d s:Nat)(c o n p code:Int)(y:Way)(hd:d<11)(hs:s<11)(bk bl bh:Int)(HB:Hid (y.second s false n=⟨bk,bl,bh⟩))(x0 x1 y0 y1:Int)(HN:Hid (∀W:World,zR 134 #[A D code,.agg #[A D (y.reg d).l,A D (y.reg d).h],.agg #[A D bl,A D bh]] W (.tuple #[.agg #[A D x0,A D x1],.agg #[A D y0,A D y1],.bool true])))(w:World)(hW:z02 w B p y):
  Calls tP 127 #[pT (some ⟨B,0,none⟩),.agg #[A D c,A D d,A D s,.bool false,A D o,A D n],A D code] w fun e w'=>e= rT (.bool true)/\Kept B w w'/\z02 w' B p (y.putReg d ⟨1,x0,x1⟩):=by
 have hK0:Blk w [(w.heap.size,cT #[A D c,A D d,A D s,.bool false,A D o,A D n] 121 (0,0)),(B,cT (z03 p y) 190 (0,0))] _:=((Blk.nil ((bF _ _).alloc (Nat.le_refl _) _)).cons (hW.alloc _)).cons (heap_alloc_new w (cT #[A D c,A D d,A D s,.bool false,A D o,A D n] 121));have hB:=hW.lt;have hs0:(0:Int)<=(s:Int):=kO;have hs1:(s:Int)<11:=kO;have hd0:(0:Int)<=(d:Int):=kO;have hd1:(d:Int)<11:=kO;have hfl:=z7f bk bl bh;go_enter Tryz.func127,Tryz.ntmps127;go_wp2_with fail;refine z0o (C:=Blk w [(w.heap.size,cT #[A D c,A D d,A D s,.bool false,A D o,A D n] 121 (0,0)),(B,cT (z03 p y) 190 (0,0))]) (n0:=w.heap.size+1) 18 [16,17] [cT #[A D 0,A D 0] 113 (0,0),cT #[A D 0,A D 0] 113 (0,0)] kR kR (fun d _ _ _ _ h=>by cases d<;>exact h) (Blk.stable _ _) (Blk.room w mcS) hK0.drew ⟨⟨rfl,fun a w2 hC=>by go_simp;try rfl⟩,⟨rfl,fun a w2 hC=>by go_simp;try rfl⟩,trivial⟩ ?_;simp only[lV,lX,lY,lZ,lQ,lJ,Nat.reduceAdd]
 repeat(first
  |(refine z0q kI ?_;simp only[pS])
  |(refine z0c kI (v:=?_) ?_ ?_;rotate_left;(intro w2 hC;obtain⟨p0,p1,p2,p3,p4,p5,ltS⟩:=row6 (hC.2 _ mcS);have yW:z02 _ B _ _:=(hC.2 _ (mcO _ mcS));have ylt:=yW.lt;obtain⟨i0,i1,i2⟩:=yW.reg hd;go_simp;try with_reducible rfl);simp only[pS])
  |(refine z18 kI ?_;apply Exists.intro;refine⟨fun w2 hC=>?_,?_⟩;(obtain⟨p0,p1,p2,p3,p4,p5,ltS⟩:=row6 (hC.2 _ mcS);have yW:z02 _ B _ _:=(hC.2 _ (mcO _ mcS));have ylt:=yW.lt;obtain⟨i0,i1,i2⟩:=yW.reg hd;go_simp;apply z1k;first|(go_at_call 112;exact(by have hq:=z39 B s c d o n false p y hs w2 yW;rw[HB.out]at hq;unfold Kno.v at hq;exact hq))|(go_at_call 134;exact HN.out w2));simp only[pS]))
 refine z11 ?_;intro L h5 g5 K h6 g6 w3 hC hB3;have hne:K≠L:=(FB.upd_none h6).1;have hne':L≠K:=fun e=>hne e.symm;have bK:=hB3 K _ (FB.at_new _ _ _);have bL:=hB3 L _ (FB.at_old hne' (FB.at_new _ _ _));obtain⟨l0,l1,lf0,lf1,llt⟩:=row2 bL;obtain⟨k0,k1,kf0,kf1,klt⟩:=row2 bK;obtain⟨p0,p1,p2,p3,p4,p5,ltS⟩:=row6 (hC.2 _ mcS);have yW:z02 _ B _ _:=(hC.2 _ (mcO _ mcS));have ylt:=yW.lt;obtain⟨i0,i1,i2⟩:=yW.reg hd;have hbw:=hC.1;have n1:w.heap.size≠L:=kO;have n2:B≠L:=kO;have n3:w.heap.size≠K:=kO;have n4:B≠K:=kO;simp only[z6y];go_wp2_with fail;have hK1:Blk w [(L,cT #[A D x0,A D x1] 113 (0,0)),(K,cT #[A D y0,A D y1] 113 (0,0)),(B,cT (z03 p y) 190 (0,0)),(w.heap.size,cT #[A D c,A D d,A D s,.bool false,A D o,A D n] 121 (0,0))] _:=((((Blk.nil kW).cons (off2 (off2 (hC.2 _ mcS) n1) n3)).cons (off2 (off2 (hC.2 _ (mcO _ mcS)) n2) n4)).cons (put2 (off2 bK hne))).cons (off2 (put2 bL) hne');clear l0 l1 lf0 lf1 llt k0 k1 kf0 kf1 klt p0 p1 p2 p3 p4 p5 ltS yW ylt i0 i1 i2 hC hbw bL bK hB3;refine z0o (C:=Blk w [(L,cT #[A D x0,A D x1] 113 (0,0)),(K,cT #[A D y0,A D y1] 113 (0,0)),(B,cT (z03 p y) 190 (0,0)),(w.heap.size,cT #[A D c,A D d,A D s,.bool false,A D o,A D n] 121 (0,0))]) (n0:=w.heap.size) 8 [] [] kR kR (fun d _ _ _ _ h=>by cases d<;>exact h) (Blk.stable _ _) (Blk.room0 _ _) hK1.drew trivial ?_;simp only[lV,lX,lY,lZ,lJ,Nat.reduceAdd]
 repeat(first
  |(refine z0q kI ?_;simp only[pS])
  |(refine z0c kI (v:=?_) ?_ ?_;rotate_left;(intro w2 hC;obtain⟨l0,l1,lf0,lf1,llt⟩:=row2 (hC.2 _ mcS);obtain⟨k0,k1,kf0,kf1,klt⟩:=row2 (hC.2 _ (mcO _ mcS));have yW:z02 _ B _ _:=(hC.2 _ (mcO _ (mcO _ mcS)));have ylt:=yW.lt;obtain⟨i0,i1,i2⟩:=yW.reg hd;obtain⟨p0,p1,p2,p3,p4,p5,ltS⟩:=row6 (hC.2 _ (mcO _ (mcO _ (mcO _ mcS))));go_simp;try with_reducible rfl);simp only[pS])
  |(refine z18 kI ?_;apply Exists.intro;refine⟨fun w2 hC=>?_,?_⟩;(obtain⟨l0,l1,lf0,lf1,llt⟩:=row2 (hC.2 _ mcS);obtain⟨k0,k1,kf0,kf1,klt⟩:=row2 (hC.2 _ (mcO _ mcS));have yW:z02 _ B _ _:=(hC.2 _ (mcO _ (mcO _ mcS)));have ylt:=yW.lt;obtain⟨i0,i1,i2⟩:=yW.reg hd;obtain⟨p0,p1,p2,p3,p4,p5,ltS⟩:=row6 (hC.2 _ (mcO _ (mcO _ (mcO _ mcS))));go_simp;apply z1k;first|(go_at_call 116;exact(by have hq:=z1s x0 x1 w2;unfold Kno.v z10 at hq;exact hq)));simp only[pS]))
 refine z11 ?_;intro w5 hC hB5;obtain⟨l0,l1,lf0,lf1,llt⟩:=row2 (hC.2 _ mcS);obtain⟨k0,k1,kf0,kf1,klt⟩:=row2 (hC.2 _ (mcO _ mcS));have yW:z02 _ B _ _:=(hC.2 _ (mcO _ (mcO _ mcS)));have ylt:=yW.lt;obtain⟨i0,i1,i2⟩:=yW.reg hd;obtain⟨p0,p1,p2,p3,p4,p5,ltS⟩:=row6 (hC.2 _ (mcO _ (mcO _ (mcO _ mcS))));have if0:=yW.frozen (1+d*3);have if1:=yW.frozen (1+d*3+1);have if2:=yW.frozen (1+d*3+2);have HK:=z09 hC.1 B;go_wp2_with fail;go_ret;exact⟨rfl,kK,yW.reg3 hd 1 x0 x1⟩
theorem zHv(B d s:Nat)(c o n p code:Int)(y:Way)(hd:d<11)(hs:s<11)(bk bl bh:Int)(HB:Hid (y.second s true n=⟨bk,bl,bh⟩))(x0 x1 y0 y1:Int)(HN:Hid (∀W:World,zR 134 #[A D code,.agg #[A D (y.reg d).l,A D (y.reg d).h],.agg #[A D bl,A D bh]] W (.tuple #[.agg #[A D x0,A D x1],.agg #[A D y0,A D y1],.bool true])))(hsd: ¬(s:Int)=(d:Int))(hsd2: ¬s=d)(w:World)(hW:z02 w B p y):
  Calls tP 127 #[pT (some ⟨B,0,none⟩),.agg #[A D c,A D d,A D s,.bool true,A D o,A D n],A D code] w fun e w'=>e= rT (.bool true)/\Kept B w w'/\z02 w' B p ((y.putReg d ⟨1,x0,x1⟩).putReg s ⟨1,y0,y1⟩):=by
 have hK0:Blk w [(w.heap.size,cT #[A D c,A D d,A D s,.bool true,A D o,A D n] 121 (0,0)),(B,cT (z03 p y) 190 (0,0))] _:=((Blk.nil ((bF _ _).alloc (Nat.le_refl _) _)).cons (hW.alloc _)).cons (heap_alloc_new w (cT #[A D c,A D d,A D s,.bool true,A D o,A D n] 121));have hB:=hW.lt;have hs0:(0:Int)<=(s:Int):=kO;have hs1:(s:Int)<11:=kO;have hd0:(0:Int)<=(d:Int):=kO;have hd1:(d:Int)<11:=kO;have hfl:=z7f bk bl bh;go_enter Tryz.func127,Tryz.ntmps127;go_wp2_with fail;refine z0o (C:=Blk w [(w.heap.size,cT #[A D c,A D d,A D s,.bool true,A D o,A D n] 121 (0,0)),(B,cT (z03 p y) 190 (0,0))]) (n0:=w.heap.size+1) 18 [16,17] [cT #[A D 0,A D 0] 113 (0,0),cT #[A D 0,A D 0] 113 (0,0)] kR kR (fun d _ _ _ _ h=>by cases d<;>exact h) (Blk.stable _ _) (Blk.room w mcS) hK0.drew ⟨⟨rfl,fun a w2 hC=>by go_simp;try rfl⟩,⟨rfl,fun a w2 hC=>by go_simp;try rfl⟩,trivial⟩ ?_;simp only[lV,lX,lY,lZ,lQ,lJ,Nat.reduceAdd]
 repeat(first
  |(refine z0q kI ?_;simp only[pS])
  |(refine z0c kI (v:=?_) ?_ ?_;rotate_left;(intro w2 hC;obtain⟨p0,p1,p2,p3,p4,p5,ltS⟩:=row6 (hC.2 _ mcS);have yW:z02 _ B _ _:=(hC.2 _ (mcO _ mcS));have ylt:=yW.lt;obtain⟨i0,i1,i2⟩:=yW.reg hd;go_simp;try with_reducible rfl);simp only[pS])
  |(refine z18 kI ?_;apply Exists.intro;refine⟨fun w2 hC=>?_,?_⟩;(obtain⟨p0,p1,p2,p3,p4,p5,ltS⟩:=row6 (hC.2 _ mcS);have yW:z02 _ B _ _:=(hC.2 _ (mcO _ mcS));have ylt:=yW.lt;obtain⟨i0,i1,i2⟩:=yW.reg hd;go_simp;apply z1k;first|(go_at_call 112;exact(by have hq:=z39 B s c d o n true p y hs w2 yW;rw[HB.out]at hq;unfold Kno.v at hq;exact hq))|(go_at_call 134;exact HN.out w2));simp only[pS]))
 refine z11 ?_;intro L h5 g5 K h6 g6 w3 hC hB3;have hne:K≠L:=(FB.upd_none h6).1;have hne':L≠K:=fun e=>hne e.symm;have bK:=hB3 K _ (FB.at_new _ _ _);have bL:=hB3 L _ (FB.at_old hne' (FB.at_new _ _ _));obtain⟨l0,l1,lf0,lf1,llt⟩:=row2 bL;obtain⟨k0,k1,kf0,kf1,klt⟩:=row2 bK;obtain⟨p0,p1,p2,p3,p4,p5,ltS⟩:=row6 (hC.2 _ mcS);have yW:z02 _ B _ _:=(hC.2 _ (mcO _ mcS));have ylt:=yW.lt;obtain⟨i0,i1,i2⟩:=yW.reg hd;have hbw:=hC.1;have n1:w.heap.size≠L:=kO;have n2:B≠L:=kO;have n3:w.heap.size≠K:=kO;have n4:B≠K:=kO;simp only[z6y];go_wp2_with fail;have hK1:Blk w [(L,cT #[A D x0,A D x1] 113 (0,0)),(K,cT #[A D y0,A D y1] 113 (0,0)),(B,cT (z03 p y) 190 (0,0)),(w.heap.size,cT #[A D c,A D d,A D s,.bool true,A D o,A D n] 121 (0,0))] _:=((((Blk.nil kW).cons (off2 (off2 (hC.2 _ mcS) n1) n3)).cons (off2 (off2 (hC.2 _ (mcO _ mcS)) n2) n4)).cons (put2 (off2 bK hne))).cons (off2 (put2 bL) hne');clear l0 l1 lf0 lf1 llt k0 k1 kf0 kf1 klt p0 p1 p2 p3 p4 p5 ltS yW ylt i0 i1 i2 hC hbw bL bK hB3;refine z0o (C:=Blk w [(L,cT #[A D x0,A D x1] 113 (0,0)),(K,cT #[A D y0,A D y1] 113 (0,0)),(B,cT (z03 p y) 190 (0,0)),(w.heap.size,cT #[A D c,A D d,A D s,.bool true,A D o,A D n] 121 (0,0))]) (n0:=w.heap.size) 8 [] [] kR kR (fun d _ _ _ _ h=>by cases d<;>exact h) (Blk.stable _ _) (Blk.room0 _ _) hK1.drew trivial ?_;simp only[lV,lX,lY,lZ,lJ,Nat.reduceAdd]
 repeat(first
  |(refine z0q kI ?_;simp only[pS])
  |(refine z0c kI (v:=?_) ?_ ?_;rotate_left;(intro w2 hC;obtain⟨l0,l1,lf0,lf1,llt⟩:=row2 (hC.2 _ mcS);obtain⟨k0,k1,kf0,kf1,klt⟩:=row2 (hC.2 _ (mcO _ mcS));have yW:z02 _ B _ _:=(hC.2 _ (mcO _ (mcO _ mcS)));have ylt:=yW.lt;obtain⟨i0,i1,i2⟩:=yW.reg hd;obtain⟨p0,p1,p2,p3,p4,p5,ltS⟩:=row6 (hC.2 _ (mcO _ (mcO _ (mcO _ mcS))));go_simp;try with_reducible rfl);simp only[pS])
  |(refine z18 kI ?_;apply Exists.intro;refine⟨fun w2 hC=>?_,?_⟩;(obtain⟨l0,l1,lf0,lf1,llt⟩:=row2 (hC.2 _ mcS);obtain⟨k0,k1,kf0,kf1,klt⟩:=row2 (hC.2 _ (mcO _ mcS));have yW:z02 _ B _ _:=(hC.2 _ (mcO _ (mcO _ mcS)));have ylt:=yW.lt;obtain⟨i0,i1,i2⟩:=yW.reg hd;obtain⟨p0,p1,p2,p3,p4,p5,ltS⟩:=row6 (hC.2 _ (mcO _ (mcO _ (mcO _ mcS))));go_simp;apply z1k;first|(go_at_call 116;exact(by have hq:=z1s x0 x1 w2;unfold Kno.v z10 at hq;exact hq)));simp only[pS]))
 refine z11 ?_;intro w5 hC hB5;obtain⟨l0,l1,lf0,lf1,llt⟩:=row2 (hC.2 _ mcS);obtain⟨k0,k1,kf0,kf1,klt⟩:=row2 (hC.2 _ (mcO _ mcS));have yW:z02 _ B _ _:=(hC.2 _ (mcO _ (mcO _ mcS)));have ylt:=yW.lt;obtain⟨i0,i1,i2⟩:=yW.reg hd;obtain⟨p0,p1,p2,p3,p4,p5,ltS⟩:=row6 (hC.2 _ (mcO _ (mcO _ (mcO _ mcS))));have if0:=yW.frozen (1+d*3);have if1:=yW.frozen (1+d*3+1);have if2:=yW.frozen (1+d*3+2);have HK:=z09 hC.1 B;go_wp2_with fail;have hK6:Blk (((w5.setCell ⟨B,1+d*3,none⟩ (A D 1)).setCell ⟨B,1+d*3+1,none⟩ (A D x0)).setCell ⟨B,1+d*3+2,none⟩ (A D x1)) [(K,cT #[A D y0,A D y1] 113 (0,0)),(B,cT (z03 p (y.putReg d ⟨1,x0,x1⟩)) 190 (0,0)),(w.heap.size,cT #[A D c,A D d,A D s,.bool true,A D o,A D n] 121 (0,0))] (((w5.setCell ⟨B,1+d*3,none⟩ (A D 1)).setCell ⟨B,1+d*3+1,none⟩ (A D x0)).setCell ⟨B,1+d*3+2,none⟩ (A D x1)):=(((Blk.nil (bF _ _)).cons (off3 (hC.2 _ (mcO _ (mcO _ (mcO _ mcS)))) kO)).cons (yW.reg3 hd 1 x0 x1)).cons (off3 (hC.2 _ (mcO _ mcS)) kO);clear l0 l1 lf0 lf1 llt k0 k1 kf0 kf1 klt p0 p1 p2 p3 p4 p5 ltS yW ylt i0 i1 i2 if0 if1 if2 hB5 hC hK1;refine z0o (C:=Blk (((w5.setCell ⟨B,1+d*3,none⟩ (A D 1)).setCell ⟨B,1+d*3+1,none⟩ (A D x0)).setCell ⟨B,1+d*3+2,none⟩ (A D x1)) [(K,cT #[A D y0,A D y1] 113 (0,0)),(B,cT (z03 p (y.putReg d ⟨1,x0,x1⟩)) 190 (0,0)),(w.heap.size,cT #[A D c,A D d,A D s,.bool true,A D o,A D n] 121 (0,0))]) (n0:=(((w5.setCell ⟨B,1+d*3,none⟩ (A D 1)).setCell ⟨B,1+d*3+1,none⟩ (A D x0)).setCell ⟨B,1+d*3+2,none⟩ (A D x1)).heap.size) 8 [] [] kR kR (fun d _ _ _ _ h=>by cases d<;>exact h) (Blk.stable _ _) (Blk.room0 _ _) hK6.drew trivial ?_;simp only[lV,lX,lY,lZ,lJ,Nat.reduceAdd]
 repeat(first
  |(refine z0q kI ?_;simp only[pS])
  |(refine z0c kI (v:=?_) ?_ ?_;rotate_left;(intro w2 hC;obtain⟨k0,k1,kf0,kf1,klt⟩:=row2 (hC.2 _ mcS);have yW:z02 _ B _ _:=(hC.2 _ (mcO _ mcS));have ylt:=yW.lt;obtain⟨i0,i1,i2⟩:=yW.reg hs;obtain⟨p0,p1,p2,p3,p4,p5,ltS⟩:=row6 (hC.2 _ (mcO _ (mcO _ mcS)));go_simp;try with_reducible rfl);simp only[pS])
  |(refine z18 kI ?_;apply Exists.intro;refine⟨fun w2 hC=>?_,?_⟩;(obtain⟨k0,k1,kf0,kf1,klt⟩:=row2 (hC.2 _ mcS);have yW:z02 _ B _ _:=(hC.2 _ (mcO _ mcS));have ylt:=yW.lt;obtain⟨i0,i1,i2⟩:=yW.reg hs;obtain⟨p0,p1,p2,p3,p4,p5,ltS⟩:=row6 (hC.2 _ (mcO _ (mcO _ mcS)));go_simp;apply z1k;first|(go_at_call 116;exact(by have hq:=z1s y0 y1 w2;unfold Kno.v z10 at hq;exact hq)));simp only[pS]))
 refine z11 ?_;intro w7 hC hB7;obtain⟨k0,k1,kf0,kf1,klt⟩:=row2 (hC.2 _ mcS);have yW:z02 _ B _ _:=(hC.2 _ (mcO _ mcS));have ylt:=yW.lt;obtain⟨i0,i1,i2⟩:=yW.reg hs;obtain⟨p0,p1,p2,p3,p4,p5,ltS⟩:=row6 (hC.2 _ (mcO _ (mcO _ mcS)));have if0:=yW.frozen (1+s*3);have if1:=yW.frozen (1+s*3+1);have if2:=yW.frozen (1+s*3+2);have HK6:=z1x (z0v (z0v (z0v HK (1+d*3) (A D 1)) (1+d*3+1) (A D x0)) (1+d*3+2) (A D x1)) hC.1;go_wp2_with fail;go_ret;exact⟨rfl,kK,yW.reg3 hs 1 y0 y1⟩
theorem zA9{B d s:Nat}{c o n p code:Int}{r:Bool}{y:Way}(hd:d<11)(hs:s<11)(hy:y.Ok)(hn:In64 n){w:World}(hW:z02 w B p y):
  Calls tP 127 #[pT (some ⟨B,0,none⟩),.agg #[A D c,A D d,A D s,.bool r,A D o,A D n],A D code] w fun e w'=>e= rT (.bool (y.narrow code d s r n).1)/\Kept B w w'/\z02 w' B p (y.narrow code d s r n).2:=by
 have o1:=hy.reg d hd;have o2:=z2o (r:=r) (n:=n) hy hs hn;have mv: ∀{E:Bool}{e:Ending}{w':World},(e= rT (.bool E)/\Below w.heap.size w w')->e= rT (.bool E)/\Kept B w w'/\z02 w' B p y:=fun h=>⟨h.1,z09 h.2 B,hW.later h.2⟩;unfold Way.narrow;rcases hv:y.second s r n with⟨bk,bl,bh⟩
 rw[hv]at o2;have HN:=fun W:World=>zQo code (y.reg d).l (y.reg d).h bl bh o1.2.2.1.1 o1.2.2.1.2 o1.2.2.2.1.1 o1.2.2.2.1.2 o2.2.2.1.1 o2.2.2.1.2 o2.2.2.2.1.1 o2.2.2.2.1.2 o1.2.2.2.2 o2.2.2.2.2 W;dsimp only;generalize narV code (y.reg d).l (y.reg d).h bl bh=z at*;obtain⟨⟨x0,x1⟩,⟨y0,y1⟩,ok⟩:=z
 cases ok
 ·rw[if_pos rfl]
  exact(zM5 B d s c o n p code r y hd hs bk bl bh hv x0 x1 y0 y1 HN w hW).mono fun _ _ h=>mv h
 rw[if_neg kS]
 cases r
 ·rw[if_neg (by intro e;exact absurd e.1 kS),if_neg kS]
  exact zHw B d s c o n p code y hd hs bk bl bh hv x0 x1 y0 y1 HN w hW
 by_cases e:s=d
 ·subst e
  rw[if_pos ⟨rfl,rfl⟩];exact(zFf B s c o n p code y hd bk bl bh hv x0 x1 y0 y1 HN w hW).mono fun _ _ h=>mv h
 rw[if_neg (fun h=>e h.2),if_pos rfl];exact zHv B d s c o n p code y hd hs bk bl bh hv x0 x1 y0 y1 HN kO e w hW
end
def wayV(x:Int×Way):Value:= .agg (z03 x.1 x.2)
def z0r(l:List (Int×Way)):List Value:=l.flatMap fun x=>(z03 x.1 x.2).toList
theorem z2e(l:List (Int×Way)):(z0r l).length=l.length*82:=by
 induction l with
 |nil=>rfl
 |cons x l ih=>
  unfold z0r at ih⊢;rw[List.flatMap_cons,List.length_append,ih,Array.length_toList,z0g,lQ];omega
theorem z4r(l:List (Int×Way))(x:Int×Way):z0r (l++[x])=z0r l++(z03 x.1 x.2).toList:=by
 unfold z0r;rw[List.flatMap_append];simp
def z0f(w:World)(base:Nat)(v:Value)(l:List (Int×Way)):Prop:=w.ownsRow base 190 82 v l.length (z0r l)
theorem Tryz.infoWz:(Tryz.prog.info? 190).map (fun i=>(i.zero,i.size,i.bytes))=some (some (.agg Tryz.zeroCells190),82,656):=kR
theorem zRl(l:List (Int×Way))(Z:Array Value)(hZ:Z.size=l.length*82):Instr.fill (fun i=>some (i*82,82)) Z (((l.map wayV).zipIdx 0).map fun x=>(x.2,x.1))=some (z0r l).toArray:=by
 have h:=Great.fill_whole (s:=82) kD (l.map wayV) Z (by
  intro v hv;obtain⟨x, -,rfl⟩:=List.mem_map.1 hv;exact z0g x.1 x.2) (by rw[List.length_map];exact hZ.symm)
 rw[h];congr 2;unfold z0r;rw[List.flatMap_map];rfl
theorem zRm(z:Value)(n:Nat):((Array.range n).map (z.cells[· %z.cells.size]!)).size=n:=by simp
theorem zA6{ops:Array Oper}{rest:List Oper}{o:Oper}{a:Act}{w:World}{Q:Exit->Act->World->Prop}(hg:o.guard=none)(l:List (Int×Way))(n:Nat)(hn:n=l.length)(h1:1<=n)(h2:n<=1000)(parts:Array (Nat×Operand))(ho:o.op= .buildSlice 192 n parts)
  (hp:(parts.map fun(i,x)=>(i,a.eval x)).toList=((l.map wayV).zipIdx 0).map fun x=>(x.2,x.1))
  (h:wpList tP ops Q rest (a.put o.dst (.slice (some ⟨w.heap.size,0,none⟩) n n)) (w.alloc (cT (z0r l).toArray 190))):wpList tP ops Q (o::rest) a w:=by
 obtain⟨i0,hi,hz0,hz1,hz2⟩:=info_parts Tryz.infoWz;refine wpList_buildSlice hg 192 190 n parts ho _ i0 _ Tryz.underlying192 hi hz0 (by rw[hz1];omega) (by rw[hz1];omega) ?_ h;rw[hp,hz1];exact zRl l _ (by rw[zRm,hn])
theorem z1m{ops:Array Oper}{rest:List Oper}{o:Oper}{a:Act}{w:World}{Q:Exit->Act->World->Prop}(hg:o.guard=none)(x:Operand)(p:Int)(y:Way)(ho:o.op= .buildSlice 192 1 #[(0,x)])(hx:a.eval x= .agg (z03 p y))
  (h:wpList tP ops Q rest (a.put o.dst (.slice (some ⟨w.heap.size,0,none⟩) 1 1)) (w.alloc (cT (z0r [(p,y)]).toArray 190))):wpList tP ops Q (o::rest) a w:=
 zA6 hg [(p,y)] 1 rfl kD kD _ ho (by simp[hx,wayV]) h
theorem z8z{ops:Array Oper}{rest:List Oper}{o:Oper}{a:Act}{w:World}{Q:Exit->Act->World->Prop}(hg:o.guard=none)(x x':Operand)(p p':Int)(y y':Way)(ho:o.op= .buildSlice 192 2 #[(0,x),(1,x')])(hx:a.eval x= .agg (z03 p y))(hx':a.eval x'= .agg (z03 p' y'))
  (h:wpList tP ops Q rest (a.put o.dst (.slice (some ⟨w.heap.size,0,none⟩) 2 2)) (w.alloc (cT (z0r [(p,y),(p',y')]).toArray 190))):wpList tP ops Q (o::rest) a w:=
 zA6 hg [(p,y),(p',y')] 2 rfl kD kD _ ho (by simp[hx,hx',wayV]) h
theorem z0f.made(w:World)(base:Nat)(l:List (Int×Way))(hb:base<=w.heap.size)(h:l.length<=maxLen):z0f (w.alloc (cT (z0r l).toArray 190)) base (.slice (some ⟨w.heap.size,0,none⟩) l.length l.length) l:=by
 have:=World.ownsRow_lit (base:=base) (e:=190) (size:=82) w (z0r l).toArray l.length hb h (by simp[z2e]);simpa[z0f]using this
theorem z0f.nil(w:World)(base:Nat):z0f w base (.slice none 0 0) []:=World.ownsRow_nil _ _ _ _
theorem z0f.mono{w:World}{base base':Nat}{v:Value}{l:List (Int×Way)}(h:z0f w base v l)(hb:base'<=base):z0f w base' v l:=by
 obtain⟨h1,h2⟩:=h;refine⟨h1,?_⟩;rcases h2 with h2|⟨g,cap,cur,e1,e2,r⟩
 ·exact Or.inl h2
 exact Or.inr ⟨g,cap,cur,e1,by omega,r⟩
theorem z0f.later{w w1:World}{base:Nat}{v:Value}{l:List (Int×Way)}(h:z0f w base v l)(hb:Below w.heap.size w w1):z0f w1 base v l:=
 World.ownsRow.kept (w':=w1) (row:=none) h ⟨hb.os,hb.tape,hb.output,hb.size,fun k hk _=>hb.block k hk⟩ (by cases v.ownBlock<;>simp)
theorem zUq{o:Oper}{u:Act}{x:Operand}{W:World}{B:Nat}{p:Int}{y:Way}(hW:z02 W B p y)(ho:o.op= .load 190 x)(hx:u.eval x= pT (some ⟨B,0,none⟩)):(execOp u.eval o).run tP W= .ok (.value (.agg (z03 p y))) W:=by
 have hl:=run_loadVar_row (P:=tP) W B 190 190 (z03 p y) (0,0) _ hW Tryz.underlying190 rfl (z0n p y);unfold execOp;simp only[ho,hx,Instr.loadAt,Instr.sureAddr,Sem.run_bind,Sem.run_pure,Result.andThen_ok,hl]
end Go.Proofs.YtabjjgkmegcacaaGreatDoor
