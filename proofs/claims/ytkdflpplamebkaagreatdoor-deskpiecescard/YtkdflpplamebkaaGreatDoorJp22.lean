/-
A part of the proof of DeskPieces; its card says what is proved.
-/
import Derived.Test.YtkdflpplamebkaaGreatDoorJp21
set_option maxHeartbeats 40000000
open Go.Value renaming int → A
open Go.IntKind renaming i64 → D
open Go.RowKit.Below renaming alloc → bA, setCell → bS, drew → bD, refl → bF
set_option maxRecDepth 1000000
set_option linter.defProp false
set_option linter.unusedVariables false
set_option linter.unusedSimpArgs false
open Go.Ending renaming returned → rT
open Go.Value renaming pointer → pT
open Go.Obj renaming cells → cT
open Go.Proofs.Tryz renaming prog → tP
open List renaming take_succ_cons → lQ, take_zero → lX, drop_succ_cons → lY, drop_zero → lZ, length_nil → lJ
namespace Go.Proofs.YtkdflpplamebkaaGreatDoor
open Go.ChangeShapes Go.WideShapes Go.ChangeAt Go.RowKit
section
attribute [local simp] z05 z0a z06
def z4i(f:Nat->Int×Int):Nat->List Value
 |0=>[]
 |k+1=>z4i f k++[A D (f k).1,A D (f k).2]
theorem zEs(f:Nat->Int×Int): ∀k,(z4i f k).length=k*2
 |0=>rfl
 |k+1=>by rw[z4i,List.length_append,zEs f k];simp;omega
theorem zHl(f:Nat->Int×Int): ∀k i,i<k->(z4i f k)[i*2]?=some (A D (f i).1)/\(z4i f k)[i*2+1]?=some (A D (f i).2)
 |0,i,h=>absurd h kO
 |k+1,i,h=>by
  have hl:=zEs f k
  by_cases e:i=k
  ·subst e
   constructor
   ·rw[z4i,List.getElem?_append_right kO,hl];simp
   ·rw[z4i,List.getElem?_append_right kO,hl,show i*2+1-i*2=1 by omega];rfl
  ·obtain⟨h1,h2⟩:=zHl f k i kO
   constructor
   ·rw[z4i,List.getElem?_append_left kO];exact h1
   ·rw[z4i,List.getElem?_append_left kO];exact h2
theorem zGp{w:World}{base k:Nat}{v:Value}{f:Nat->Int×Int}(h:w.ownsRow base 84 2 v k (z4i f k))(hk:k<=1000000):zR 76 #[v] w (.agg #[A D (z1i f k).1,A D (z1i f k).2]):=by
 rcases Nat.eq_zero_or_pos k with h0|h0
 ·subst h0
  rcases h.2 with⟨hv,_⟩|⟨g,cap,cur,hv,_⟩
  ·rw[hv];exact z8k none 0 w
  ·rw[hv];exact z8k _ cap w
 obtain⟨g,cap,hv⟩: ∃g cap,v= .slice (some ⟨g,0,none⟩) k cap:=by
  rcases h.2 with⟨_,hn⟩|⟨g,cap,cur,hv,_⟩
  ·omega
  ·exact⟨g,cap,hv⟩
 subst hv;refine zDx g k cap f h0 hk w ((h.lt g rfl).2) fun i hi=>?_;obtain⟨a1,a2⟩:=zHl f k i hi;exact⟨(h.cellAt (i*2) kO).trans a1,(h.cellAt (i*2+1) kO).trans a2⟩
theorem Blk.grown{w0 w w':World}{F:List (Nat×Obj)}{row:Option Nat}{b:Nat}(h:Blk w0 F w)(hg:w.grownBy w' row)(hr: ∀k,row=some k->b<=k)(h0:w0.heap.size<=b)(hF: ∀x,x∈F->x.1<b):Blk w0 F w':=
 ⟨h.1.grown hg h.1.size (fun k hk=>Nat.le_trans h0 (hr k hk)),fun x hx=>(hg.block x.1 (Array.getElem?_eq_some_iff.1 (h.2 x hx)).1 (fun e=>by have:=hr x.1 e.symm;have:=hF x hx;omega)).trans (h.2 x hx)⟩
theorem zR1{w:World}{x y:Value}{e:TypeId}{b:Nat}(hb:b=w.heap.size): ∀(j:Nat) u,[x,y][j]?=some u->(w.alloc (cT #[x,y] e)).cell? ((⟨b,0,none⟩:Addr).add j)=some u:=by
 subst hb;intro j u hj;match j,hj with
 |0,hj=>simp at hj;subst hj;simp[Addr.add]
 |1,hj=>simp at hj;subst hj;simp[Addr.add]
theorem Tryz.infoB:(Tryz.prog.info? 84).map (fun i=>(i.zero,i.size,i.bytes))=some (some (.agg #[A D 0,A D 0]),2,16):=kR
def z2s(y:Way)(t j:Nat):Int:=z16 (y.slot (t+j))
def bdAt(y:Way)(t j:Nat):Int×Int:=((y.slot (t+j)).l,(y.slot (t+j)).h)
theorem Blk.swap4{w0 w:World}{a b c d:Nat×Obj}(h:Blk w0 [a,b,c] w)(hd:w.heap[d.1]?=some d.2):Blk w0 [a,b,c,d] w:=
 ⟨h.1,fun x hx=>by
  simp only[List.mem_cons,List.not_mem_nil,or_false]at hx;rcases hx with rfl|rfl|rfl|rfl
  ·exact h.2 _ kS
  ·exact h.2 _ kS
  ·exact h.2 _ kS
  ·exact hd⟩
theorem Blk.more4{w0 w:World}{a b c d:Nat×Obj}(h:Blk w0 [a,b,c,d] w):Blk w0 [a,b,c] w:=
 h.more fun x hx=>by simp only[List.mem_cons,List.not_mem_nil,or_false]at hx⊢;rcases hx with rfl|rfl|rfl<;>simp
theorem z8f{w w1:World}{X:Obj}{b:Nat}{e:TypeId}{z:Nat}{v:Value}{n:Nat}{xs:List Value}(h:w.ownsRow b e z v n xs)(hb:Below (w.alloc X).heap.size (w.alloc X) w1):w1.ownsRow b e z v n xs:=
 (h.alloc X).kept (w':=w1) (row:=none) ⟨hb.os,hb.tape,hb.output,hb.size,fun k hk _=>hb.block k hk⟩ (by cases v.ownBlock<;>simp)
theorem zLn(B t:Nat)(wl p:Int)(y:Way)(htm:t<16)(e1:IntKind.i64.wrap (wl+16)=(t:Int)):(∀(x0:((y.slot t).k !=0)=true)(w:World)(hW:z03 w B p y),zR 181 #[pT (some ⟨B,0,none⟩),.agg #[A D wl,A D wl]] w (.tuple #[.agg #[A D (y.slot t).k,A D (y.slot t).l,A D (y.slot t).h],A D 0]))/\(∀(x0:((y.slot t).k !=0)=false)(w:World)(hW:z03 w B p y),Calls tP 181 #[pT (some ⟨B,0,none⟩),.agg #[A D wl,A D wl]] w fun e w'=>(∃k,k<1/\(∀j,j<k->z2s y t j=0)/\z2s y t k≠0/\e= rT (.tuple #[.agg #[A D 0,A D 0,A D 0],A D (z2s y t k)])/\Below w.heap.size w w')\/((∀j,j<1->z2s y t j=0)/\e= rT (.tuple #[.agg #[A D 1,A D (z1i (bdAt y t) 1).1,A D (z1i (bdAt y t) 1).2],A D 0])/\Below w.heap.size w w')):=by
 refine⟨?_,?_⟩
 all_goals
  intro x0 w hW;have hK0:Blk w [(w.heap.size,cT #[A D wl,A D wl] 84 (0,0)),(w.heap.size+1,cT #[A D 0,A D 0,A D 0] 192 (0,0)),(B,cT (z04 p y) 196 (0,0))] _:=(((Blk.nil (((bF _ _).alloc (Nat.le_refl _) _).alloc kS _)).cons ((hW.alloc _).alloc _)).cons (heap_alloc2_new w (cT #[A D wl,A D wl] 84) (cT #[A D 0,A D 0,A D 0] 192))).cons (by rw[Below.heap_alloc _ _ _ kS];exact heap_alloc_new _ _);have hB:=hW.lt;have ht0:(0:Int)<=(t:Int):=kO;have hm0:(t:Int)<=(t:Int)+1:=kO;have hm1:(t:Int)+1<=16:=kO;have e3:IntKind.i64.wrap ((t:Int)+1)=(t:Int)+1:=by rw[IntWalk.i64_left];exact z0s kO kO
  have ht:t<16:=kO
 all_goals
  go_enter Tryz.func181,Tryz.ntmps181;go_wp2_with fail;refine z0n (C:=Blk w [(w.heap.size,cT #[A D wl,A D wl] 84 (0,0)),(w.heap.size+1,cT #[A D 0,A D 0,A D 0] 192 (0,0)),(B,cT (z04 p y) 196 (0,0))]) (n0:=w.heap.size) 11 [] [] kR kR (fun d _ _ _ _ h=>by cases d<;>exact h) (Blk.stable _ _) (Blk.room0 _ _) hK0.drew trivial ?_;simp only[lQ,lX,lY,lZ,lJ,Nat.reduceAdd]
  repeat(first
   |(refine z0k kI ?_;simp only[pS])
   |(refine z09 kI (v:=?_) ?_ ?_;rotate_left;(intro w2 hC;obtain⟨s0,s1,sf0,sf1,slt⟩:=row2 (hC.2 _ mcS);obtain⟨z0,z1,z2,zf0,zf1,zf2,zlt⟩:=row3 (hC.2 _ (mcO _ mcS));have yW:z03 _ B _ _:=(hC.2 _ (mcO _ (mcO _ mcS)));have ylt:=yW.lt;go_simp;try with_reducible rfl);simp only[pS]))
  refine z0r ?_;intro w3 hC hB3;obtain⟨s0,s1,sf0,sf1,slt⟩:=row2 (hC.2 _ mcS);obtain⟨z0,z1,z2,zf0,zf1,zf2,zlt⟩:=row3 (hC.2 _ (mcO _ mcS));have yW:z03 _ B _ _:=(hC.2 _ (mcO _ (mcO _ mcS)));have ylt:=yW.lt;go_wp2_with fail;have hK3:=hC;clear s0 s1 sf0 sf1 slt z0 z1 z2 zf0 zf1 zf2 zlt yW ylt hC hB3 hK0;refine z0n (C:=Blk w [(w.heap.size,cT #[A D wl,A D wl] 84 (0,0)),(w.heap.size+1,cT #[A D 0,A D 0,A D 0] 192 (0,0)),(B,cT (z04 p y) 196 (0,0))]) (n0:=w.heap.size) 11 [] [] kR kR (fun d _ _ _ _ h=>by cases d<;>exact h) (Blk.stable _ _) (Blk.room0 _ _) hK3.drew trivial ?_;simp only[lQ,lX,lY,lZ,lJ,Nat.reduceAdd]
  repeat(first
   |(refine z0k kI ?_;simp only[pS])
   |(refine z09 kI (v:=?_) ?_ ?_;rotate_left;(intro w2 hC;obtain⟨s0,s1,sf0,sf1,slt⟩:=row2 (hC.2 _ mcS);obtain⟨z0,z1,z2,zf0,zf1,zf2,zlt⟩:=row3 (hC.2 _ (mcO _ mcS));have yW:z03 _ B _ _:=(hC.2 _ (mcO _ (mcO _ mcS)));have ylt:=yW.lt;obtain⟨i0,i1,i2⟩:=yW.slot ht;go_simp;try with_reducible rfl);simp only[pS])
   |(refine z0t kI ?_;apply Exists.intro;refine⟨fun w2 hC=>?_,?_⟩;(obtain⟨s0,s1,sf0,sf1,slt⟩:=row2 (hC.2 _ mcS);obtain⟨z0,z1,z2,zf0,zf1,zf2,zlt⟩:=row3 (hC.2 _ (mcO _ mcS));have yW:z03 _ B _ _:=(hC.2 _ (mcO _ (mcO _ mcS)));have ylt:=yW.lt;obtain⟨i0,i1,i2⟩:=yW.slot ht;go_simp;apply z10;first|(go_at_call 86;exact z3c _ w2));simp only[pS]))
  refine z0r ?_;intro w4 hC hB4;obtain⟨s0,s1,sf0,sf1,slt⟩:=row2 (hC.2 _ mcS);obtain⟨z0,z1,z2,zf0,zf1,zf2,zlt⟩:=row3 (hC.2 _ (mcO _ mcS));have yW:z03 _ B _ _:=(hC.2 _ (mcO _ (mcO _ mcS)));have ylt:=yW.lt;obtain⟨i0,i1,i2⟩:=yW.slot ht;have hK4:=hC;go_wp2_with fail
 ·have hbw:=hC.1
  exact bodyPost_ret (v:= .tuple #[.agg #[A D (y.slot t).k,A D (y.slot t).l,A D (y.slot t).h],A D 0]) (by simp[results,Tryz.results181,go_sem, *]) rfl ⟨rfl,kW⟩
 ·obtain⟨j0,hj,hy0,hy1,hy2⟩:=info_parts Tryz.infoB
  clear s0 s1 sf0 sf1 slt z0 z1 z2 zf0 zf1 zf2 zlt yW ylt i0 i1 i2 hC hB4 hK3;have HK4:Hid (Blk w [(w.heap.size,cT #[A D wl,A D wl] 84 (0,0)),(w.heap.size+1,cT #[A D 0,A D 0,A D 0] 192 (0,0)),(B,cT (z04 p y) 196 (0,0))] w4):=hK4;clear hK4;go_loopw [7,39] (fun v i wr=> ∃k:Nat,i=A D k/\k<=1/\Hid (Blk w [(w.heap.size,cT #[A D wl,A D wl] 84 (0,0)),(w.heap.size+1,cT #[A D 0,A D 0,A D 0] 192 (0,0)),(B,cT (z04 p y) 196 (0,0))] wr)/\Hid (wr.ownsRow (w.heap.size+1+1) 84 2 v k (z4i (bdAt y t) k))/\Hid (∀j,j<k->z2s y t j=0)) (fun _ i _=>1-(intOf i).toNat)
  case atStart=>exact⟨0,rfl,by omega,HK4.out,World.ownsRow_nil _ _ _ _,fun j hj=>absurd hj kO⟩
  case round=>
   obtain⟨k,rfl,hk,H,HO,HZ⟩:=hrel;have hK:=H.out;clear HK4;have hk0:(0:Int)<=(k:Int):=kO
   by_cases hlt:k<1
   ·have hlt':(k:Int)<(1:Int):=kO
    obtain⟨s0,s1,sf0,sf1,slt⟩:=row2 (hK.2 _ mcS);obtain⟨z0,z1,z2,zf0,zf1,zf2,zlt⟩:=row3 (hK.2 _ (mcO _ mcS));have yW:z03 _ B _ _:=(hK.2 _ (mcO _ (mcO _ mcS)));have ylt:=yW.lt;obtain⟨i0,i1,i2⟩:=yW.slot (d:=t+k) kO;have e5:34+(t+k)*3=34+t*3+k*3:=kO;rw[e5]at i0 i1 i2;clear e5
    by_cases hwt:z2s y t k=0
    ·have HW0:Hid (z16 ⟨(y.slot (t+k)).k,(y.slot (t+k)).l,(y.slot (t+k)).h⟩=0):=hwt
     clear hwt
     go_wp2_with(first
      |(go_at_call 142;refine(z48 _ _ _ _).mono ?_;rintro e w5 ⟨rfl,hb5⟩;rw[HW0.out];have hK5:Blk w [(w.heap.size,cT #[A D wl,A D wl] 84 (0,0)),(w.heap.size+1,cT #[A D 0,A D 0,A D 0] 192 (0,0)),(B,cT (z04 p y) 196 (0,0)),(wr.heap.size,cT #[A D (y.slot (t+k)).k,A D (y.slot (t+k)).l,A D (y.slot (t+k)).h] 192 (0,0))] w5:=(((hK.later ((bF _ _).alloc (Nat.le_refl _) _)).swap4 (heap_alloc_new wr (cT #[A D (y.slot (t+k)).k,A D (y.slot (t+k)).l,A D (y.slot (t+k)).h] 192))).later hb5);have hO5:=z8f HO.out hb5;clear s0 s1 sf0 sf1 slt z0 z1 z2 zf0 zf1 zf2 zlt yW ylt;clear i0 i1 i2;obtain⟨s0,s1,sf0,sf1,slt⟩:=row2 (hK5.2 _ mcS);obtain⟨z0,z1,z2,zf0,zf1,zf2,zlt⟩:=row3 (hK5.2 _ (mcO _ mcS));have yW:z03 _ B _ _:=(hK5.2 _ (mcO _ (mcO _ mcS)));have ylt:=yW.lt;obtain⟨x0,x1,x2,xf0,xf1,xf2,xlt⟩:=row3 (hK5.2 _ (mcO _ (mcO _ (mcO _ mcS)))))
      |(at_builtin;refine wpList_append_own _ rfl (.tmp 49) (.tmp 52) 142 rfl (w.heap.size+1+1) 84 j0 (.agg #[A D 0,A D 0]) 2 16 Tryz.underlying142 hj hy0 hy1 hy2 rfl kD _ k (z4i (bdAt y t) k) rfl (hO5.alloc _) ⟨w5.heap.size,0,none⟩ 1 1 [A D (y.slot (t+k)).l,A D (y.slot (t+k)).h] rfl rfl (zR1 rfl) (by intro u hu;simp at hu;rcases hu with rfl|rfl<;>rfl) (by unfold maxLen;omega) kO kZ ?_;intro v6 w6 hown6 hgrow6 _)
      |fail)
     go_roundw
     case rel=>
      refine⟨k+1,by go_num,by omega,?_,hown6,?_⟩
      ·exact((hK5.more4.later ((bF _ _).alloc (Nat.le_refl _) _)).grown hgrow6 (b:=w.heap.size+1+1) (fun j hj=>(hO5.lt j hj).1) kO (by intro x hx;simp only[List.mem_cons,List.not_mem_nil,or_false]at hx;rcases hx with rfl|rfl|rfl<;>(show _<_;omega)))
      ·intro j hj
       by_cases e:j=k
       ·rw[e];exact HW0.out
       ·exact HZ.out j kO
     case measure=>simp[intOf];omega
    ·have hwb:(z2s y t k !=0)=true:=by simpa using hwt
     have HWT:Hid (z2s y t k≠0):=hwt;obtain⟨E,hE⟩: ∃E,z2s y t k=E:=⟨_,rfl⟩;have HW0:Hid (z16 ⟨(y.slot (t+k)).k,(y.slot (t+k)).l,(y.slot (t+k)).h⟩=E):=hE;have HE:Hid (z2s y t k=E):=hE;rw[hE]at hwb;clear hwt hE
     go_wp2_with(first
      |(go_at_call 142;refine(z48 _ _ _ _).mono ?_;rintro e w5 ⟨rfl,hb5⟩;rw[HW0.out];have hK5:Blk w [(w.heap.size,cT #[A D wl,A D wl] 84 (0,0)),(w.heap.size+1,cT #[A D 0,A D 0,A D 0] 192 (0,0)),(B,cT (z04 p y) 196 (0,0)),(wr.heap.size,cT #[A D (y.slot (t+k)).k,A D (y.slot (t+k)).l,A D (y.slot (t+k)).h] 192 (0,0))] w5:=(((hK.later ((bF _ _).alloc (Nat.le_refl _) _)).swap4 (heap_alloc_new wr (cT #[A D (y.slot (t+k)).k,A D (y.slot (t+k)).l,A D (y.slot (t+k)).h] 192))).later hb5);have hO5:=z8f HO.out hb5;clear s0 s1 sf0 sf1 slt z0 z1 z2 zf0 zf1 zf2 zlt yW ylt;clear i0 i1 i2;obtain⟨s0,s1,sf0,sf1,slt⟩:=row2 (hK5.2 _ mcS);obtain⟨z0,z1,z2,zf0,zf1,zf2,zlt⟩:=row3 (hK5.2 _ (mcO _ mcS));have yW:z03 _ B _ _:=(hK5.2 _ (mcO _ (mcO _ mcS)));have ylt:=yW.lt;obtain⟨x0,x1,x2,xf0,xf1,xf2,xlt⟩:=row3 (hK5.2 _ (mcO _ (mcO _ (mcO _ mcS)))))
      |fail)
     have hbw:=hK5.1;exact bodyPost_ret (v:= .tuple #[.agg #[A D 0,A D 0,A D 0],A D E]) (by simp[results,Tryz.results181,go_sem, *]) rfl (Or.inl ⟨k,hlt,HZ.out,HWT.out,by rw[HE.out],kW⟩)
   ·obtain rfl:k=1:=by omega
    obtain⟨s0,s1,sf0,sf1,slt⟩:=row2 (hK.2 _ mcS);obtain⟨z0,z1,z2,zf0,zf1,zf2,zlt⟩:=row3 (hK.2 _ (mcO _ mcS));have yW:z03 _ B _ _:=(hK.2 _ (mcO _ (mcO _ mcS)));have ylt:=yW.lt
    go_wp2_with(first
     |(go_at_call 76;refine(zGp HO.out kO).mono ?_;rintro e w5 ⟨rfl,hb5⟩;have hK5:=hK.later hb5)
     |(go_at_call 180;refine(z1o _ _ _).mono ?_;rintro e w6 ⟨rfl,hb6⟩;simp only[Kno.v,z1n];have hK6:=hK5.later hb6;have hbw:=hK6.1;clear s0 s1 sf0 sf1 slt z0 z1 z2 zf0 zf1 zf2 zlt yW ylt;obtain⟨s0,s1,sf0,sf1,slt⟩:=row2 (hK6.2 _ mcS);obtain⟨z0,z1,z2,zf0,zf1,zf2,zlt⟩:=row3 (hK6.2 _ (mcO _ mcS));have yW:z03 _ B _ _:=(hK6.2 _ (mcO _ (mcO _ mcS)));have ylt:=yW.lt)
     |fail)
    exact bodyPost_ret (v:= .tuple #[.agg #[A D 1,A D (z1i (bdAt y t) 1).1,A D (z1i (bdAt y t) 1).2],A D 0]) (by simp[results,Tryz.results181,go_sem, *]) rfl (Or.inr ⟨HZ.out 0 kO,rfl,kW⟩)
def zV1:=fun B t wl p y htm e1=>(@zLn B t wl p y htm e1).1
def zRs:=fun B t wl p y htm e1=>(@zLn B t wl p y htm e1).2
theorem zRr(B t m:Nat)(wl wh p:Int)(y:Way)(htm:t+m<16)(e1:IntKind.i64.wrap (wl+16)=(t:Int))(e2:IntKind.i64.wrap (wh+16)=(t:Int)+(m:Int))(hne: ¬wh=wl)(w:World)(hW:z03 w B p y):
  Calls tP 181 #[pT (some ⟨B,0,none⟩),.agg #[A D wl,A D wh]] w fun e w'=>(∃k,k<(m+1)/\(∀j,j<k->z2s y t j=0)/\z2s y t k≠0/\e= rT (.tuple #[.agg #[A D 0,A D 0,A D 0],A D (z2s y t k)])/\Below w.heap.size w w')\/((∀j,j<(m+1)->z2s y t j=0)/\e= rT (.tuple #[.agg #[A D 1,A D (z1i (bdAt y t) (m+1)).1,A D (z1i (bdAt y t) (m+1)).2],A D 0])/\Below w.heap.size w w'):=by
 have hK0:Blk w [(w.heap.size,cT #[A D wl,A D wh] 84 (0,0)),(w.heap.size+1,cT #[A D 0,A D 0,A D 0] 192 (0,0)),(B,cT (z04 p y) 196 (0,0))] _:=(((Blk.nil (((bF _ _).alloc (Nat.le_refl _) _).alloc kS _)).cons ((hW.alloc _).alloc _)).cons (heap_alloc2_new w (cT #[A D wl,A D wh] 84) (cT #[A D 0,A D 0,A D 0] 192))).cons (by rw[Below.heap_alloc _ _ _ kS];exact heap_alloc_new _ _);have hB:=hW.lt;have ht0:(0:Int)<=(t:Int):=kO;have hm0:(t:Int)<=(t:Int)+(m:Int)+1:=kO;have hm1:(t:Int)+(m:Int)+1<=16:=kO;have e3:IntKind.i64.wrap ((t:Int)+(m:Int)+1)=(t:Int)+(m:Int)+1:=by rw[IntWalk.i64_left];exact z0s kO kO
 have ht:t<16:=kO;go_enter Tryz.func181,Tryz.ntmps181;go_wp2_with fail;refine z0n (C:=Blk w [(w.heap.size,cT #[A D wl,A D wh] 84 (0,0)),(w.heap.size+1,cT #[A D 0,A D 0,A D 0] 192 (0,0)),(B,cT (z04 p y) 196 (0,0))]) (n0:=w.heap.size) 11 [] [] kR kR (fun d _ _ _ _ h=>by cases d<;>exact h) (Blk.stable _ _) (Blk.room0 _ _) hK0.drew trivial ?_;simp only[lQ,lX,lY,lZ,lJ,Nat.reduceAdd]
 repeat(first
  |(refine z0k kI ?_;simp only[pS])
  |(refine z09 kI (v:=?_) ?_ ?_;rotate_left;(intro w2 hC;obtain⟨s0,s1,sf0,sf1,slt⟩:=row2 (hC.2 _ mcS);obtain⟨z0,z1,z2,zf0,zf1,zf2,zlt⟩:=row3 (hC.2 _ (mcO _ mcS));have yW:z03 _ B _ _:=(hC.2 _ (mcO _ (mcO _ mcS)));have ylt:=yW.lt;go_simp;try with_reducible rfl);simp only[pS]))
 refine z0r ?_;intro w3 hC hB3;obtain⟨s0,s1,sf0,sf1,slt⟩:=row2 (hC.2 _ mcS);obtain⟨z0,z1,z2,zf0,zf1,zf2,zlt⟩:=row3 (hC.2 _ (mcO _ mcS));have yW:z03 _ B _ _:=(hC.2 _ (mcO _ (mcO _ mcS)));have ylt:=yW.lt;go_wp2_with fail;have e4:((t:Int)+(m:Int)+1).toNat-t=m+1:=kO;rw[e4];clear e4;have hK3:=hC;clear s0 s1 sf0 sf1 slt z0 z1 z2 zf0 zf1 zf2 zlt yW ylt hC hB3 hK0;refine z0n (C:=Blk w [(w.heap.size,cT #[A D wl,A D wh] 84 (0,0)),(w.heap.size+1,cT #[A D 0,A D 0,A D 0] 192 (0,0)),(B,cT (z04 p y) 196 (0,0))]) (n0:=w.heap.size) 11 [] [] kR kR (fun d _ _ _ _ h=>by cases d<;>exact h) (Blk.stable _ _) (Blk.room0 _ _) hK3.drew trivial ?_;simp only[lQ,lX,lY,lZ,lJ,Nat.reduceAdd]
 repeat(first
  |(refine z0k kI ?_;simp only[pS])
  |(refine z09 kI (v:=?_) ?_ ?_;rotate_left;(intro w2 hC;obtain⟨s0,s1,sf0,sf1,slt⟩:=row2 (hC.2 _ mcS);obtain⟨z0,z1,z2,zf0,zf1,zf2,zlt⟩:=row3 (hC.2 _ (mcO _ mcS));have yW:z03 _ B _ _:=(hC.2 _ (mcO _ (mcO _ mcS)));have ylt:=yW.lt;obtain⟨i0,i1,i2⟩:=yW.slot ht;go_simp;try with_reducible rfl);simp only[pS])
  |(refine z0t kI ?_;apply Exists.intro;refine⟨fun w2 hC=>?_,?_⟩;(obtain⟨s0,s1,sf0,sf1,slt⟩:=row2 (hC.2 _ mcS);obtain⟨z0,z1,z2,zf0,zf1,zf2,zlt⟩:=row3 (hC.2 _ (mcO _ mcS));have yW:z03 _ B _ _:=(hC.2 _ (mcO _ (mcO _ mcS)));have ylt:=yW.lt;obtain⟨i0,i1,i2⟩:=yW.slot ht;go_simp;apply z10;first|(go_at_call 86;exact z3c _ w2));simp only[pS]))
 refine z0r ?_;intro w4 hC hB4;obtain⟨s0,s1,sf0,sf1,slt⟩:=row2 (hC.2 _ mcS);obtain⟨z0,z1,z2,zf0,zf1,zf2,zlt⟩:=row3 (hC.2 _ (mcO _ mcS));have yW:z03 _ B _ _:=(hC.2 _ (mcO _ (mcO _ mcS)));have ylt:=yW.lt;obtain⟨i0,i1,i2⟩:=yW.slot ht;have hK4:=hC;go_wp2_with fail;obtain⟨j0,hj,hy0,hy1,hy2⟩:=info_parts Tryz.infoB;clear s0 s1 sf0 sf1 slt z0 z1 z2 zf0 zf1 zf2 zlt yW ylt i0 i1 i2 hC hB4 hK3;have HK4:Hid (Blk w [(w.heap.size,cT #[A D wl,A D wh] 84 (0,0)),(w.heap.size+1,cT #[A D 0,A D 0,A D 0] 192 (0,0)),(B,cT (z04 p y) 196 (0,0))] w4):=hK4;clear hK4;go_loopw [7,39] (fun v i wr=> ∃k:Nat,i=A D k/\k<=(m+1)/\Hid (Blk w [(w.heap.size,cT #[A D wl,A D wh] 84 (0,0)),(w.heap.size+1,cT #[A D 0,A D 0,A D 0] 192 (0,0)),(B,cT (z04 p y) 196 (0,0))] wr)/\Hid (wr.ownsRow (w.heap.size+1+1) 84 2 v k (z4i (bdAt y t) k))/\Hid (∀j,j<k->z2s y t j=0)) (fun _ i _=>(m+1)-(intOf i).toNat)
 case atStart=>exact⟨0,rfl,by omega,HK4.out,World.ownsRow_nil _ _ _ _,fun j hj=>absurd hj kO⟩
 case round=>
  obtain⟨k,rfl,hk,H,HO,HZ⟩:=hrel;have hK:=H.out;clear HK4;have hk0:(0:Int)<=(k:Int):=kO
  by_cases hlt:k<(m+1)
  ·have hlt':(k:Int)<((m:Int)+1:Int):=kO
   obtain⟨s0,s1,sf0,sf1,slt⟩:=row2 (hK.2 _ mcS);obtain⟨z0,z1,z2,zf0,zf1,zf2,zlt⟩:=row3 (hK.2 _ (mcO _ mcS));have yW:z03 _ B _ _:=(hK.2 _ (mcO _ (mcO _ mcS)));have ylt:=yW.lt;obtain⟨i0,i1,i2⟩:=yW.slot (d:=t+k) kO;have e5:34+(t+k)*3=34+t*3+k*3:=kO;rw[e5]at i0 i1 i2;clear e5
   by_cases hwt:z2s y t k=0
   ·have HW0:Hid (z16 ⟨(y.slot (t+k)).k,(y.slot (t+k)).l,(y.slot (t+k)).h⟩=0):=hwt
    clear hwt
    go_wp2_with(first
     |(go_at_call 142;refine(z48 _ _ _ _).mono ?_;rintro e w5 ⟨rfl,hb5⟩;rw[HW0.out];have hK5:Blk w [(w.heap.size,cT #[A D wl,A D wh] 84 (0,0)),(w.heap.size+1,cT #[A D 0,A D 0,A D 0] 192 (0,0)),(B,cT (z04 p y) 196 (0,0)),(wr.heap.size,cT #[A D (y.slot (t+k)).k,A D (y.slot (t+k)).l,A D (y.slot (t+k)).h] 192 (0,0))] w5:=(((hK.later ((bF _ _).alloc (Nat.le_refl _) _)).swap4 (heap_alloc_new wr (cT #[A D (y.slot (t+k)).k,A D (y.slot (t+k)).l,A D (y.slot (t+k)).h] 192))).later hb5);have hO5:=z8f HO.out hb5;clear s0 s1 sf0 sf1 slt z0 z1 z2 zf0 zf1 zf2 zlt yW ylt;clear i0 i1 i2;obtain⟨s0,s1,sf0,sf1,slt⟩:=row2 (hK5.2 _ mcS);obtain⟨z0,z1,z2,zf0,zf1,zf2,zlt⟩:=row3 (hK5.2 _ (mcO _ mcS));have yW:z03 _ B _ _:=(hK5.2 _ (mcO _ (mcO _ mcS)));have ylt:=yW.lt;obtain⟨x0,x1,x2,xf0,xf1,xf2,xlt⟩:=row3 (hK5.2 _ (mcO _ (mcO _ (mcO _ mcS)))))
     |(at_builtin;refine wpList_append_own _ rfl (.tmp 49) (.tmp 52) 142 rfl (w.heap.size+1+1) 84 j0 (.agg #[A D 0,A D 0]) 2 16 Tryz.underlying142 hj hy0 hy1 hy2 rfl kD _ k (z4i (bdAt y t) k) rfl (hO5.alloc _) ⟨w5.heap.size,0,none⟩ 1 1 [A D (y.slot (t+k)).l,A D (y.slot (t+k)).h] rfl rfl (zR1 rfl) (by intro u hu;simp at hu;rcases hu with rfl|rfl<;>rfl) (by unfold maxLen;omega) kO kZ ?_;intro v6 w6 hown6 hgrow6 _)
     |fail)
    go_roundw
    case rel=>
     refine⟨k+1,by go_num,by omega,?_,hown6,?_⟩
     ·exact((hK5.more4.later ((bF _ _).alloc (Nat.le_refl _) _)).grown hgrow6 (b:=w.heap.size+1+1) (fun j hj=>(hO5.lt j hj).1) kO (by intro x hx;simp only[List.mem_cons,List.not_mem_nil,or_false]at hx;rcases hx with rfl|rfl|rfl<;>(show _<_;omega)))
     ·intro j hj
      by_cases e:j=k
      ·rw[e];exact HW0.out
      ·exact HZ.out j kO
    case measure=>simp[intOf];omega
   ·have hwb:(z2s y t k !=0)=true:=by simpa using hwt
    have HWT:Hid (z2s y t k≠0):=hwt;obtain⟨E,hE⟩: ∃E,z2s y t k=E:=⟨_,rfl⟩;have HW0:Hid (z16 ⟨(y.slot (t+k)).k,(y.slot (t+k)).l,(y.slot (t+k)).h⟩=E):=hE;have HE:Hid (z2s y t k=E):=hE;rw[hE]at hwb;clear hwt hE
    go_wp2_with(first
     |(go_at_call 142;refine(z48 _ _ _ _).mono ?_;rintro e w5 ⟨rfl,hb5⟩;rw[HW0.out];have hK5:Blk w [(w.heap.size,cT #[A D wl,A D wh] 84 (0,0)),(w.heap.size+1,cT #[A D 0,A D 0,A D 0] 192 (0,0)),(B,cT (z04 p y) 196 (0,0)),(wr.heap.size,cT #[A D (y.slot (t+k)).k,A D (y.slot (t+k)).l,A D (y.slot (t+k)).h] 192 (0,0))] w5:=(((hK.later ((bF _ _).alloc (Nat.le_refl _) _)).swap4 (heap_alloc_new wr (cT #[A D (y.slot (t+k)).k,A D (y.slot (t+k)).l,A D (y.slot (t+k)).h] 192))).later hb5);have hO5:=z8f HO.out hb5;clear s0 s1 sf0 sf1 slt z0 z1 z2 zf0 zf1 zf2 zlt yW ylt;clear i0 i1 i2;obtain⟨s0,s1,sf0,sf1,slt⟩:=row2 (hK5.2 _ mcS);obtain⟨z0,z1,z2,zf0,zf1,zf2,zlt⟩:=row3 (hK5.2 _ (mcO _ mcS));have yW:z03 _ B _ _:=(hK5.2 _ (mcO _ (mcO _ mcS)));have ylt:=yW.lt;obtain⟨x0,x1,x2,xf0,xf1,xf2,xlt⟩:=row3 (hK5.2 _ (mcO _ (mcO _ (mcO _ mcS)))))
     |fail)
    have hbw:=hK5.1;exact bodyPost_ret (v:= .tuple #[.agg #[A D 0,A D 0,A D 0],A D E]) (by simp[results,Tryz.results181,go_sem, *]) rfl (Or.inl ⟨k,hlt,HZ.out,HWT.out,by rw[HE.out],kW⟩)
  ·obtain rfl:k=(m+1):=by omega
   obtain⟨s0,s1,sf0,sf1,slt⟩:=row2 (hK.2 _ mcS);obtain⟨z0,z1,z2,zf0,zf1,zf2,zlt⟩:=row3 (hK.2 _ (mcO _ mcS));have yW:z03 _ B _ _:=(hK.2 _ (mcO _ (mcO _ mcS)));have ylt:=yW.lt
   go_wp2_with(first
    |(go_at_call 76;refine(zGp HO.out kO).mono ?_;rintro e w5 ⟨rfl,hb5⟩;have hK5:=hK.later hb5)
    |(go_at_call 180;refine(z1o _ _ _).mono ?_;rintro e w6 ⟨rfl,hb6⟩;simp only[Kno.v,z1n];have hK6:=hK5.later hb6;have hbw:=hK6.1;clear s0 s1 sf0 sf1 slt z0 z1 z2 zf0 zf1 zf2 zlt yW ylt;obtain⟨s0,s1,sf0,sf1,slt⟩:=row2 (hK6.2 _ mcS);obtain⟨z0,z1,z2,zf0,zf1,zf2,zlt⟩:=row3 (hK6.2 _ (mcO _ mcS));have yW:z03 _ B _ _:=(hK6.2 _ (mcO _ (mcO _ mcS)));have ylt:=yW.lt)
    |fail)
   exact bodyPost_ret (v:= .tuple #[.agg #[A D 1,A D (z1i (bdAt y t) (m+1)).1,A D (z1i (bdAt y t) (m+1)).2],A D 0]) (by simp[results,Tryz.results181,go_sem, *]) rfl (Or.inr ⟨HZ.out,rfl,kW⟩)
end
theorem z5e(x:Kno): ∀l:List Kno,z1r (l++[x])=if z1r l=0 then z16 x else z1r l
 |[]=>by
  show(if z16 x=0 then z1r []else z16 x)=if(0:Int)=0 then z16 x else 0;rw[if_pos rfl];split
  ·rename_i h;exact h.symm
  ·rfl
 |y::l=>by
  show(if z16 y=0 then z1r (l++[x])else z16 y)=if(if z16 y=0 then z1r l else z16 y)=0 then z16 x else if z16 y=0 then z1r l else z16 y
  by_cases h:z16 y=0
  ·rw[if_pos h,if_pos h,z5e x l]
  ·rw[if_neg h,if_neg h,if_neg h]
theorem z9y(x:Kno): ∀(l:List Kno)(p:Int×Int),z3v p (l++[x])=(min (z3v p l).1 x.l,max (z3v p l).2 x.h)
 |[],_=>rfl
 |y::l,p=>by
  show z3v (min p.1 y.l,max p.2 y.h) (l++[x])=_;rw[z9y x l];rfl
theorem zCe(y:Way)(t M:Nat):y.row t (M+1)=y.row t M++[y.slot (t+M)]:=by
 unfold Way.row;rw[List.range'_concat,List.map_append];simp
theorem z83{y:Way}{t:Nat}: ∀M,(∀j,j<M->z2s y t j=0)->z1r (y.row t M)=0
 |0,_=>rfl
 |M+1,h=>by rw[zCe,z5e,z83 M (fun j hj=>h j kO),if_pos rfl];exact h M kO
theorem zEk{y:Way}{t k:Nat}(hk: ∀j,j<k->z2s y t j=0)(hw:z2s y t k≠0): ∀M,k<M->z1r (y.row t M)=z2s y t k
 |0,h=>absurd h kO
 |M+1,h=>by
  by_cases e:k=M
  ·subst e
   rw[zCe,z5e,z83 k hk,if_pos rfl];rfl
  ·rw[zCe,z5e,zEk hk hw M kO,if_neg hw]
theorem zL3{y:Way}{t:Nat}: ∀M,z99 (y.row t (M+1))=z1i (bdAt y t) (M+1)
 |0=>rfl
 |M+1=>by
  rw[z98 _ kO, <-zL3 M,zCe y t (M+1)]
  have: ∃x l,y.row t (M+1)=x::l:=by
   cases h:y.row t (M+1)with
   |nil=>have:=congrArg List.length h;simp[Way.row]at this
   |cons x l=>exact⟨x,l,rfl⟩
  obtain⟨x,l,e⟩:=this;rw[e];show z3v (x.l,x.h) (l++[y.slot (t+(M+1))])=_;rw[z9y];rfl
theorem zV2(B:Nat)(wl wh p:Int)(y:Way)(h0: -16<=wl)(h1:wl<=wh)(h2:wh<= -1)(w:World)(hW:z03 w B p y):
  zR 181 #[pT (some ⟨B,0,none⟩),.agg #[A D wl,A D wh]] w (.tuple #[(y.kept (wl,wh)).1.v,A D (y.kept (wl,wh)).2]):=by
 obtain⟨t,et⟩:=Int.eq_ofNat_of_zero_le (show 0<=wl+16 by omega);obtain⟨m,em⟩:=Int.eq_ofNat_of_zero_le (show 0<=wh-wl by omega);have e1:IntKind.i64.wrap (wl+16)=(t:Int):=by rw[IntWalk.i64_left,z0s kO kO];exact et
 have t1:(wl+16).toNat=t:=kO;have m1:(wh-wl+1).toNat=m+1:=kO;unfold Way.kept;show Calls _ _ _ _ fun e w'=>e= rT (.tuple #[(if wl=wh/\(y.slot (wl+16).toNat).k≠0 then(y.slot (wl+16).toNat,0)else if z1r (y.row (wl+16).toNat (wh-wl+1).toNat)≠0 then(kno0,z1r (y.row (wl+16).toNat (wh-wl+1).toNat))else(z1n (z99 (y.row (wl+16).toNat (wh-wl+1).toNat)).1 (z99 (y.row (wl+16).toNat (wh-wl+1).toNat)).2,0):Kno×Int).1.v,A D (if wl=wh/\(y.slot (wl+16).toNat).k≠0 then(y.slot (wl+16).toNat,0)else if z1r (y.row (wl+16).toNat (wh-wl+1).toNat)≠0 then(kno0,z1r (y.row (wl+16).toNat (wh-wl+1).toNat))else(z1n (z99 (y.row (wl+16).toNat (wh-wl+1).toNat)).1 (z99 (y.row (wl+16).toNat (wh-wl+1).toNat)).2,0):Kno×Int).2])/\Below w.heap.size w w';rw[t1,m1]
 by_cases c:wl=wh/\(y.slot t).k≠0
 ·rw[if_pos c]
  obtain⟨rfl,c2⟩:=c;exact zV1 B t wl p y kO e1 (by simpa using c2) w hW
 rw[if_neg c]
 have fin: ∀{e:Ending}{w':World},((∃k,k<m+1/\(∀j,j<k->z2s y t j=0)/\z2s y t k≠0/\e= rT (.tuple #[.agg #[A D 0,A D 0,A D 0],A D (z2s y t k)])/\Below w.heap.size w w')\/((∀j,j<m+1->z2s y t j=0)/\e= rT (.tuple #[.agg #[A D 1,A D (z1i (bdAt y t) (m+1)).1,A D (z1i (bdAt y t) (m+1)).2],A D 0])/\Below w.heap.size w w'))->
   e= rT (.tuple #[(if z1r (y.row t (m+1))≠0 then(kno0,z1r (y.row t (m+1)))else(z1n (z99 (y.row t (m+1))).1 (z99 (y.row t (m+1))).2,0):Kno×Int).1.v,A D (if z1r (y.row t (m+1))≠0 then(kno0,z1r (y.row t (m+1)))else(z1n (z99 (y.row t (m+1))).1 (z99 (y.row t (m+1))).2,0):Kno×Int).2])/\Below w.heap.size w w':=by
  rintro e w' (⟨k,hk,hz,hne,rfl,hb⟩|⟨hz,rfl,hb⟩)
  ·rw[zEk hz hne _ hk,if_pos hne];exact⟨rfl,hb⟩
  ·rw[z83 _ hz,if_neg kS,zL3];exact⟨rfl,hb⟩
 by_cases d:wl=wh
 ·subst d
  have m0:m=0:=kO;subst m0
  have k0:((y.slot t).k !=0)=false:=by
   cases hb:(y.slot t).k !=0
   ·rfl
   ·exact absurd ⟨rfl,by simpa using hb⟩ c
  exact(zRs B t wl p y kO e1 k0 w hW).mono fun e w' h=>fin h
 have e2:IntKind.i64.wrap (wh+16)=(t:Int)+(m:Int):=by rw[IntWalk.i64_left,z0s kO kO];omega
 exact(zRr B t m wl wh p y kO e1 e2 (fun e=>d e.symm) w hW).mono fun e w' h=>fin h
end Go.Proofs.YtkdflpplamebkaaGreatDoor
