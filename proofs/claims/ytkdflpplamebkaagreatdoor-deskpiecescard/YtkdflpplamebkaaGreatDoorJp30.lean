/-
A part of the proof of DeskPieces; its card says what is proved.
-/
import Derived.Test.YtkdflpplamebkaaGreatDoorJp29
set_option maxHeartbeats 40000000
open Go.Value renaming int → A
open Go.IntKind renaming i64 → E
open Go.RowKit.Below renaming alloc → bA, setCell → bS, drew → bD, refl → bF
set_option maxRecDepth 1000000
set_option linter.defProp false
set_option linter.unusedVariables false
set_option linter.unusedSimpArgs false
open Go.Ending renaming returned → rT
open Go.Value renaming pointer → pT
open Go.Obj renaming cells → cT
open Go.Proofs.Tryz renaming prog → tP
namespace Go.Proofs.YtkdflpplamebkaaGreatDoor
section
open Go.ChangeShapes Go.WideShapes Go.ChangeAt Go.RowKit
attribute [local simp] z05 z0a z06
theorem q4t(B k i r:Nat)(hk:k<3)(hi:i<8)(d:Dsk)(p:Pg)(x:Int)(w:World)(hD:z0f w B d)(hr:w.heap[r]?=some (cT #[A E x] 3 (0,0)))(HP:Hid ((d.g k).ps.getD i pg0=p)):zR 68 #[pT (some ⟨B,k*317+i*19,none⟩),pT (some ⟨r,0,none⟩)] w (.bool (decide (x<p.rank))):=by
 have hK:Blk w [(r,cT #[A E x] 3 (0,0)),(B,cT (Array.ofFn (n:=952) fun i=>Dsk.cell d i.1) 125 (0,0))] w:=((Blk.nil (bF _ _)).cons hD).cons hr;go_enter Tryz.func68,Tryz.ntmps68;go_upto_region 1 with fail
 refine z0n (C:=Blk w [(r,cT #[A E x] 3 (0,0)),(B,cT (Array.ofFn (n:=952) fun i=>Dsk.cell d i.1) 125 (0,0))]) (n0:=w.heap.size) 6 [] [] kR kR (fun d _ _ _ _ h=>by cases d<;>exact h) (Blk.stable _ _) (fun w2 h=>h.1.size) hK.drew trivial ?_;simp only[List.take_succ_cons,List.take_zero,List.drop_succ_cons,List.drop_zero,List.length_nil,Nat.reduceAdd]
 repeat(first
  |(refine z0k kI ?_;simp only[pS])
  |(refine z09 kI (v:=?_) ?_ ?_;rotate_left;(intro w2 hC;have hDk:z0f _ B d:=(hC.2 _ (mcO _ mcS));have c2:World.cell? _ ⟨B,k*317+i*19+1,none⟩=some (A E p.rank):=(by have h:=z6d (j:=1) hDk hk hi kD;rw[HP.out]at h;exact h);have c3:World.cell? _ ⟨r,0,none⟩=some (A E x):=(cell_of_row _ _ 0 _ _ _ (hC.2 _ mcS)).trans rfl;go_simp;try with_reducible rfl);simp only[pS]))
 refine z0r ?_;intro w3 hC hB3;go_wp2_with fail;go_ret;exact⟨rfl,hC.1⟩
theorem so_id(B k i r:Nat)(hk:k<3)(hi:i<8)(d:Dsk)(p:Pg)(x:Int)(w:World)(hD:z0f w B d)(hr:w.heap[r]?=some (cT #[A E x] 3 (0,0)))(HP:Hid ((d.g k).ps.getD i pg0=p)):zR 105 #[pT (some ⟨B,k*317+i*19,none⟩),pT (some ⟨r,0,none⟩)] w (.bool (p.id==x)):=by
 have hK:Blk w [(r,cT #[A E x] 3 (0,0)),(B,cT (Array.ofFn (n:=952) fun i=>Dsk.cell d i.1) 125 (0,0))] w:=((Blk.nil (bF _ _)).cons hD).cons hr;go_enter Tryz.func105,Tryz.ntmps105;go_upto_region 1 with fail
 refine z0n (C:=Blk w [(r,cT #[A E x] 3 (0,0)),(B,cT (Array.ofFn (n:=952) fun i=>Dsk.cell d i.1) 125 (0,0))]) (n0:=w.heap.size) 6 [] [] kR kR (fun d _ _ _ _ h=>by cases d<;>exact h) (Blk.stable _ _) (fun w2 h=>h.1.size) hK.drew trivial ?_;simp only[List.take_succ_cons,List.take_zero,List.drop_succ_cons,List.drop_zero,List.length_nil,Nat.reduceAdd]
 repeat(first
  |(refine z0k kI ?_;simp only[pS])
  |(refine z09 kI (v:=?_) ?_ ?_;rotate_left;(intro w2 hC;have hDk:z0f _ B d:=(hC.2 _ (mcO _ mcS));have c2:World.cell? _ ⟨B,k*317+i*19,none⟩=some (A E p.id):=(by have h:=z6d (j:=0) hDk hk hi kD;rw[HP.out]at h;exact h);have c3:World.cell? _ ⟨r,0,none⟩=some (A E x):=(cell_of_row _ _ 0 _ _ _ (hC.2 _ mcS)).trans rfl;go_simp;try with_reducible rfl);simp only[pS]))
 refine z0r ?_;intro w3 hC hB3;go_wp2_with fail;go_ret;exact⟨rfl,hC.1⟩
theorem zBc{α:Type}(q:α->Bool)(z:α): ∀(l:List α)(i:Nat),i<l.length->(∀j,j<i->q (l.getD j z)=false)->q (l.getD i z)=true->l.findIdx q=i
 |[],i,h,_,_=>absurd h (Nat.not_lt_zero i)
 |x::l,0,_,_,h=>by
  have h':q x=true:=h;rw[List.findIdx_cons,h'];rfl
 |x::l,i+1,h,ho,hq=>by
  have h0:q x=false:=ho 0 (Nat.succ_pos i);rw[List.findIdx_cons,h0];show l.findIdx q+1=i+1;rw[zBc q z l i (Nat.lt_of_succ_lt_succ h) (fun j hj=>ho (j+1) (Nat.succ_lt_succ hj)) hq]
theorem z84{α:Type}(q:α->Bool)(z:α): ∀(l:List α),(∀j,j<l.length->q (l.getD j z)=false)->l.findIdx q=l.length
 |[],_=>rfl
 |x::l,ho=>by
  have h0:q x=false:=ho 0 (Nat.succ_pos _);rw[List.findIdx_cons,h0];show l.findIdx q+1=l.length+1;rw[z84 q z l (fun j hj=>ho (j+1) (Nat.succ_lt_succ hj))]
theorem zTz(B k r:Nat)(hk:k<3)(d:Dsk)(x:Int)(w:World)(hD:z0f w B d)(h8:(d.g k).ps.length<=8)(hr:w.heap[r]?=some (cT #[A E x] 3 (0,0))):zR 67 #[pT (some ⟨B,k*317,none⟩),.func (.func 68) #[] #[pT (some ⟨r,0,none⟩)]] w (A E (((d.g k).ps.findIdx fun p=>decide (x<p.rank):Nat):Int)):=by
 have hc0:=z27 hD hk;obtain⟨N,HN⟩: ∃N,Hid ((d.g k).ps.length=N):=⟨_,rfl⟩;have hN:(N:Int)<=8:=by have:=HN.out;omega
 rw[HN.out]at hc0;go_enter Tryz.func67,Tryz.ntmps67;go_wp2_with fail;clear hc0;go_loopw [10] (fun iv wr=> ∃i:Nat,iv=A E i/\i<=N/\Below w.heap.size w wr/\Hid (∀j,j<i->(fun p:Pg=>decide (x<p.rank)) ((d.g k).ps.getD j pg0)=false)) (fun iv _=>N-(intOf iv).toNat)
 case atStart=>exact⟨0,rfl,Nat.zero_le _,bF _ _,fun j hj=>absurd hj (Nat.not_lt_zero j)⟩
 case round=>
  obtain⟨i,rfl,hi,hb,H⟩:=hrel;have hi0:(0:Int)<=(i:Int):=kO;have hDr:=FnAt.later hD hb;have hrr:=(hb.block r (Array.getElem?_eq_some_iff.1 hr).1).trans hr
  by_cases hlt:i<N
  ·have hlt':(i:Int)<(N:Int):=kO
   have hi8:(i:Int)<8:=kO;obtain⟨p,HP⟩: ∃p,Hid ((d.g k).ps.getD i pg0=p):=⟨_,rfl⟩;obtain⟨b,HBb⟩: ∃b,Hid ((fun p:Pg=>decide (x<p.rank)) p=b):=⟨_,rfl⟩;have HS:=q4t B k i r hk kO d p x wr hDr hrr HP;rw[show(decide (x<p.rank))=b from HBb.out]at HS
   cases b with
   |false=>
    go_wp2_with(go_at_call 68;refine HS.mono ?_;rintro e w1 ⟨rfl,hb1⟩);go_roundw
    case rel=>
     refine⟨i+1,by go_num,by omega,hb.trans (hb1.mono hb.size),fun j hj=>?_⟩;rcases Nat.lt_succ_iff_lt_or_eq.1 hj with h|h
     ·exact H.out j h
     ·rw[h,HP.out];exact HBb.out
    case measure=>simp[intOf];omega
   |true=>
    go_wp2_with(go_at_call 68;refine HS.mono ?_;rintro e w1 ⟨rfl,hb1⟩);go_ret;refine⟨?_,hb.trans (hb1.mono hb.size)⟩;rw[zBc (fun p:Pg=>decide (x<p.rank)) pg0 (d.g k).ps i (by rw[HN.out];exact hlt) H.out (by rw[HP.out];exact HBb.out)];rfl
  ·obtain rfl:i=N:=by omega
   have hc1:=z27 hDr hk;rw[HN.out]at hc1;go_wp2_with fail;go_ret;refine⟨?_,hb⟩;rw[z84 (fun p:Pg=>decide (x<p.rank)) pg0 (d.g k).ps (by rw[HN.out];exact H.out),HN.out];rfl
theorem zQs(B k r:Nat)(hk:k<3)(d:Dsk)(x:Int)(w:World)(hD:z0f w B d)(h8:(d.g k).ps.length<=8)(hr:w.heap[r]?=some (cT #[A E x] 3 (0,0))):zR 67 #[pT (some ⟨B,k*317,none⟩),.func (.func 105) #[] #[pT (some ⟨r,0,none⟩)]] w (A E (((d.g k).ps.findIdx fun p=>p.id==x:Nat):Int)):=by
 have hc0:=z27 hD hk;obtain⟨N,HN⟩: ∃N,Hid ((d.g k).ps.length=N):=⟨_,rfl⟩;have hN:(N:Int)<=8:=by have:=HN.out;omega
 rw[HN.out]at hc0;go_enter Tryz.func67,Tryz.ntmps67;go_wp2_with fail;clear hc0;go_loopw [10] (fun iv wr=> ∃i:Nat,iv=A E i/\i<=N/\Below w.heap.size w wr/\Hid (∀j,j<i->(fun p:Pg=>p.id==x) ((d.g k).ps.getD j pg0)=false)) (fun iv _=>N-(intOf iv).toNat)
 case atStart=>exact⟨0,rfl,Nat.zero_le _,bF _ _,fun j hj=>absurd hj (Nat.not_lt_zero j)⟩
 case round=>
  obtain⟨i,rfl,hi,hb,H⟩:=hrel;have hi0:(0:Int)<=(i:Int):=kO;have hDr:=FnAt.later hD hb;have hrr:=(hb.block r (Array.getElem?_eq_some_iff.1 hr).1).trans hr
  by_cases hlt:i<N
  ·have hlt':(i:Int)<(N:Int):=kO
   have hi8:(i:Int)<8:=kO;obtain⟨p,HP⟩: ∃p,Hid ((d.g k).ps.getD i pg0=p):=⟨_,rfl⟩;obtain⟨b,HBb⟩: ∃b,Hid ((fun p:Pg=>p.id==x) p=b):=⟨_,rfl⟩;have HS:=so_id B k i r hk kO d p x wr hDr hrr HP;rw[show(p.id==x)=b from HBb.out]at HS
   cases b with
   |false=>
    go_wp2_with(go_at_call 105;refine HS.mono ?_;rintro e w1 ⟨rfl,hb1⟩);go_roundw
    case rel=>
     refine⟨i+1,by go_num,by omega,hb.trans (hb1.mono hb.size),fun j hj=>?_⟩;rcases Nat.lt_succ_iff_lt_or_eq.1 hj with h|h
     ·exact H.out j h
     ·rw[h,HP.out];exact HBb.out
    case measure=>simp[intOf];omega
   |true=>
    go_wp2_with(go_at_call 105;refine HS.mono ?_;rintro e w1 ⟨rfl,hb1⟩);go_ret;refine⟨?_,hb.trans (hb1.mono hb.size)⟩;rw[zBc (fun p:Pg=>p.id==x) pg0 (d.g k).ps i (by rw[HN.out];exact hlt) H.out (by rw[HP.out];exact HBb.out)];rfl
  ·obtain rfl:i=N:=by omega
   have hc1:=z27 hDr hk;rw[HN.out]at hc1;go_wp2_with fail;go_ret;refine⟨?_,hb⟩;rw[z84 (fun p:Pg=>p.id==x) pg0 (d.g k).ps (by rw[HN.out];exact H.out),HN.out];rfl
end
section
open Go.RowKit
section
variable {C D S:Nat->Int} {R:Nat->Bool} {O N:Nat->Int} {C' D' S':Nat->Int} {R':Nat->Bool} {O' N':Nat->Int} {len sh:Nat}
end
end
section
open Go.ChangeShapes Go.WideShapes Go.ChangeAt Go.RowKit
theorem zMc(x:St)(xs:List St):z1p (x::xs)=x.cells.toList++z1p xs:=by simp[z1p]
theorem z9d: ∀xs:List St,(z1p xs).length=xs.length*6
 |[]=>rfl
 |x::xs=>by rw[zMc,List.length_append,z9d xs,z64,List.length_cons];omega
theorem zPa(xs:List St): ∀u∈z1p xs,u.oneCell'=true:=by
 intro u hu;obtain⟨l,hl,hu⟩:=List.mem_flatten.mp hu;obtain⟨x, -,rfl⟩:=List.mem_map.mp hl;exact zW1 x u hu
theorem six_at{w:World}{bk o:Nat}{x:St}(h:w.cell? ⟨bk,o,none⟩=some (A E x.c)/\w.cell? ⟨bk,o+1,none⟩=some (A E x.d)/\w.cell? ⟨bk,o+2,none⟩=some (A E x.s)/\w.cell? ⟨bk,o+3,none⟩=some (.bool x.r)/\w.cell? ⟨bk,o+4,none⟩=some (A E x.o)/\w.cell? ⟨bk,o+5,none⟩=some (A E x.n)):
  ∀k,k<6->w.cell? ⟨bk,o+k,none⟩=x.cells.toList[k]?:=by
 intro k hk;obtain⟨h0,h1,h2,h3,h4,h5⟩:=h;rcases(by omega:k=0\/k=1\/k=2\/k=3\/k=4\/k=5)with rfl|rfl|rfl|rfl|rfl|rfl
 ·exact h0
 ·exact h1
 ·exact h2
 ·exact h3
 ·exact h4
 exact h5
theorem zSa{w:World}{bk off len:Nat}{xs:List St}(hl:xs.length=len)(hst:z1v w bk off len (fun j=>(nth xs j).c) (fun j=>(nth xs j).d) (fun j=>(nth xs j).s) (fun j=>(nth xs j).r) (fun j=>(nth xs j).o) (fun j=>(nth xs j).n)):
  ∀j u,(z1p xs)[j]?=some u->w.cell? ((⟨bk,off,none⟩:Addr).add j)=some u:=by
 intro j u hj;have hlt:=(List.getElem?_eq_some_iff.1 hj).1;rw[z9d]at hlt;have hi:j/6<len:=kO;have hk:j%6<6:=Nat.mod_lt _ kD;have e:j/6*6+j%6=j:=kO;have h:=cells_at xs (j/6) (j%6) kO hk;rw[e,hj]at h;rw[Addr.add_mid,h, <-six_at (hst (j/6) hi) (j%6) hk];congr 2;omega
def goL(xs:List St):(Int×Nat)⊕List Kno:=goF (fun j=>(nth xs j).c) (fun j=>(nth xs j).d) (fun j=>(nth xs j).s) (fun j=>(nth xs j).r) (fun j=>(nth xs j).o) (fun j=>(nth xs j).n) 4000 [(0,way0)] []
end
section
open Go.ChangeShapes Go.WideShapes Go.ChangeAt Go.RowKit
attribute [local simp] z05 z0a z06
structure LsAt (w:World) (l:Value) (xs:List St):Prop where
 lies: ∃a cap,l= .slice a xs.length cap/\(xs.length=0\/ ∃bk off,a=some ⟨bk,off,none⟩/\bk<w.heap.size/\z1v w bk off xs.length (fun j=>(nth xs j).c) (fun j=>(nth xs j).d) (fun j=>(nth xs j).s) (fun j=>(nth xs j).r) (fun j=>(nth xs j).o) (fun j=>(nth xs j).n))
 nums: ∀j,j<xs.length->In64 (nth xs j).o/\In64 (nth xs j).n
theorem LsAt.later{w w':World}{l:Value}{xs:List St}(h:LsAt w l xs)(hb:Below w.heap.size w w'):LsAt w' l xs:=by
 obtain⟨a,cap,e,h1⟩:=h.lies;refine⟨⟨a,cap,e,h1.imp id fun⟨bk,off,h2,h3,h4⟩=>⟨bk,off,h2,Nat.lt_of_lt_of_le h3 hb.size,z3x h4 (hb.block bk h3)⟩⟩,h.nums⟩
def Lets(xs:List St):Prop:=1<=xs.length/\xs.length<=200/\(∀j,j<xs.length->z3p xs j=0)/\ ∃es,goL xs= .inr es
theorem zHs{w:World}{l:Value}{xs:List St}(hl:LsAt w l xs)(h:Lets xs):Calls tP 47 #[l] w fun e w'=> ∃x y,e= rT (.tuple #[.agg #[A E x,A E y],.nilIface])/\Below w.heap.size w w':=by
 obtain⟨a,cap,rfl,h0⟩:=hl.lies;obtain⟨h1,h2,h3,es,h4⟩:=h;obtain⟨bk,off,rfl,hb,hs⟩:=h0.resolve_left kO;exact(zCu bk off xs.length cap _ _ _ _ _ _ w h1 h2 hb hs h3 hl.nums es h4).mono fun e w' ⟨g1,g2⟩=>⟨_,_,g1,g2⟩
theorem zUf{o:Oper}{u:Act}(w:World)(ho:o.op= .buildSlice 73 0 #[]):(execOp u.eval o).run tP w= .ok (.value (.slice (some ⟨w.heap.size,0,none⟩) 0 0)) (w.alloc (cT #[] 135)):=by
 obtain⟨i0,hi0,hz0,hz1,hz2⟩:=info_parts Tryz.infoStep;unfold execOp;simp only[ho,Sem.run_bind,Instr.buildSlice,run_underlying Tryz.underlying73,Result.andThen_ok,sizeOf,typeInfo,hi0,Sem.run_pure,Nat.zero_mul,if_true,if_false];have e:Array.map (fun x:Nat=>(default:Value)) (Array.range 0)=#[]:=Array.eq_empty_of_size_eq_zero kS;simp[Instr.fill,newRow,hi0,hz1,e]
theorem zR0{w:World}{l:Value}{xs:List St}(hl:LsAt w l xs)(h1:1<=xs.length)(h2:xs.length<=200):Calls tP 69 #[l] w fun e w'=> ∃g cap,e= rT (.slice (some ⟨g,0,none⟩) xs.length cap)/\w.heap.size<=g/\Below w.heap.size w w'/\w'.ownsRow w.heap.size 135 6 (.slice (some ⟨g,0,none⟩) xs.length cap) xs.length (z1p xs):=by
 obtain⟨a,cap,rfl,h0⟩:=hl.lies;obtain⟨bk,off,rfl,hb,hs⟩:=h0.resolve_left kO;obtain⟨N,HN⟩: ∃N,Hid (xs.length=N):=⟨_,rfl⟩;have HS:Hid (z1v w bk off xs.length (fun j=>(nth xs j).c) (fun j=>(nth xs j).d) (fun j=>(nth xs j).s) (fun j=>(nth xs j).r) (fun j=>(nth xs j).o) (fun j=>(nth xs j).n)):=hs;clear hs;rw[HN.out]at h1 h2⊢;have hen:Sem.run tP (binOp .eql 73 (.slice (some ⟨bk,off,none⟩) N cap) (.slice none 0 0)) w= .ok (.bool false) w:=Lib.run_eql_slice_nil w 73 135 (some ⟨bk,off,none⟩) N cap 0 0 Tryz.underlying73;go_enter Tryz.func69,Tryz.ntmps69;go_upto_region 3 with fail
 go_step;obtain⟨i0,hi0,hz0,hz1,hz2⟩:=info_parts Tryz.infoStep
 (refine z00 rfl (.slice (some ⟨w.heap.size,0,none⟩) 0 0) (w.alloc (cT #[] 135)) (zUf w rfl) ?_);simp only[pS]
 (refine z00 rfl (.slice (some ⟨bk,off,none⟩) N cap) (w.alloc (cT #[] 135)) kG ?_);simp only[pS]
 refine wpList_append_own (w.alloc (cT #[] 135)) rfl (.tmp 5) (.tmp 6) 73 rfl w.heap.size 135 i0 (.agg St.zero.cells) 6 48 Tryz.underlying73 hi0 hz0 hz1 hz2 rfl kD (.slice (some ⟨w.heap.size,0,none⟩) 0 0) 0 [] rfl ⟨rfl,.inr ⟨w.heap.size,0, #[],rfl,Nat.le_refl _,heap_alloc_new _ _,Nat.le_refl _,by decide,rfl,rfl⟩⟩ ⟨bk,off,none⟩ N cap (z1p xs) rfl (by rw[z9d,HN.out]) (zSa HN.out (by have:=z3x HS.out (w':=w.alloc (cT #[] 135)) (heap_alloc_old _ _ hb);rw[HN.out]at this;exact this)) (zPa xs) (by unfold maxLen;omega) kO kS ?_;intro v5 w5 ho5 hg5 _;simp only[pS];rw[Nat.zero_add,List.nil_append]at ho5;have hb5:Below w.heap.size w w5:=((bF _ _).alloc (Nat.le_refl _) _).grown hg5 kS (fun j hj=>Nat.le_of_eq (Option.some.inj hj));rcases rowShape ho5 with⟨-,e0⟩|⟨g,cp,rfl⟩
 ·omega
 have hl5:=(World.ownsRow.lt ho5 g rfl).1;go_wp2_with fail;go_ret;exact⟨g,cp,rfl,hl5,hb5,ho5⟩
end
section
open Go.ChangeShapes Go.WideShapes Go.ChangeAt Go.RowKit
attribute [local simp] z05 z0a z06
def pgCs(p:Pg):Array Value:=#[A E p.id,A E p.rank,p.sl,A E (p.tab 0),A E (p.tab 1),A E (p.tab 2),A E (p.tab 3),A E (p.tab 4),A E (p.tab 5),A E (p.tab 6),A E (p.tab 7),A E (p.tab 8),A E (p.tab 9),A E (p.tab 10),A E (p.tab 11),A E (p.tab 12),A E (p.tab 13),A E (p.tab 14),A E (p.tab 15)]
theorem zId(p:Pg){j:Nat}(hj:j<19):(pgCs p).toList.getD j undef=z9p p j:=by
 rcases(show j=0\/j=1\/j=2\/j=3\/j=4\/j=5\/j=6\/j=7\/j=8\/j=9\/j=10\/j=11\/j=12\/j=13\/j=14\/j=15\/j=16\/j=17\/j=18 by omega)with rfl|rfl|rfl|rfl|rfl|rfl|rfl|rfl|rfl|rfl|rfl|rfl|rfl|rfl|rfl|rfl|rfl|rfl|rfl<;>rfl
def Pg.ins(ps:List Pg)(i:Nat)(q:Pg):List Pg:=ps.take i++q::ps.drop i
theorem zGr(ps:List Pg){i:Nat}(q:Pg)(h:i<=ps.length):(Pg.ins ps i q).length=ps.length+1:=by
 unfold Pg.ins;rw[List.length_append,List.length_cons,List.length_take,List.length_drop];omega
theorem q2e(ps:List Pg){i:Nat}(q z:Pg)(h:i<=ps.length)(m:Nat):(Pg.ins ps i q).getD m z=if m<i then ps.getD m z else if m=i then q else ps.getD (m-1) z:=by
 unfold Pg.ins;have hl:(ps.take i).length=i:=by rw[List.length_take];omega
 simp only[List.getD_eq_getElem?_getD]
 by_cases c:m<i
 ·rw[if_pos c,List.getElem?_append_left kO,List.getElem?_take_of_lt c]
 rw[if_neg c,List.getElem?_append_right kO,hl]
 by_cases e:m=i
 ·rw[if_pos e,e,Nat.sub_self];rfl
 rw[if_neg e,show m-i=(m-i-1)+1 by omega,List.getElem?_cons_succ,List.getElem?_drop,show i+(m-i-1)=m-1 by omega]
theorem zPc(d:Dsk){k i n:Nat}(q:Pg)(z:Int)(hk:k<3)(hn:(d.g k).ps.length=n)(h7:n<=7)(hi:i<=n)(j:Nat)(_:j<952):
  (d.put k {d.g k with ps:=Pg.ins (d.g k).ps i q,last:=z}).cell j=if k*317+i*19<=j/\j<k*317+i*19+(pgCs q).toList.length then(pgCs q).toList.getD (j-(k*317+i*19)) undef else if j=k*317+153 then A E z else if j=k*317+152 then A E ((n:Int)+1)else if k*317+(i+1)*19<=j/\j<k*317+(i+1)*19+((List.range ((n-i)*19)).map fun t=>d.cell (k*317+i*19+t)).length then((List.range ((n-i)*19)).map fun t=>d.cell (k*317+i*19+t)).getD (j-(k*317+(i+1)*19)) undef else d.cell j:=by
 have hl:(pgCs q).toList.length=19:=rfl;have hc:((List.range ((n-i)*19)).map fun t=>d.cell (k*317+i*19+t)).length=(n-i)*19:=by rw[List.length_map,List.length_range]
 rw[hl,hc,z65 d _ hk]
 by_cases c:k*317<=j/\j<k*317+317
 ·rw[if_pos c]
  obtain⟨x,rfl⟩: ∃x,j=k*317+x:=⟨j-k*317,by omega⟩;have hx:x<317:=kO
  have e0:z0y {d.g k with ps:=Pg.ins (d.g k).ps i q,last:=z} x=if x<154 then z22 (Pg.ins (d.g k).ps i q) z x else z0y (d.g k) x:=by
   unfold z0y;dsimp only
   by_cases c1:x<154
   ·rw[if_pos c1,if_pos c1]
   ·rw[if_neg c1,if_neg c1,if_neg c1]
  rw[Nat.add_sub_cancel_left,e0,z1s d hk hx]
  by_cases c1:x<154
  ·have e1:z22 (Pg.ins (d.g k).ps i q) z x=if x<152 then z9p (if x/19<i then(d.g k).ps.getD (x/19) pg0 else if x/19=i then q else(d.g k).ps.getD (x/19-1) pg0) (x%19)else if x=152 then A E ((n:Int)+1)else A E z:=by
    unfold z22;rw[q2e _ q pg0 kO,zGr _ q kO,hn];rfl
   rw[if_pos c1,e1]
   by_cases a1:i*19<=x/\x<i*19+19
   ·rw[if_pos (show k*317+i*19<=k*317+x/\k*317+x<k*317+i*19+19 by omega),if_pos (show x<152 by omega),if_neg (show¬x/19<i by omega),if_pos (show x/19=i by omega),show k*317+x-(k*317+i*19)=x%19 by omega,zId q kO]
   rw[if_neg (show¬(k*317+i*19<=k*317+x/\k*317+x<k*317+i*19+19)by omega)]
   by_cases a2:x=153
   ·rw[if_pos (show k*317+x=k*317+153 by omega),if_neg (show¬x<152 by omega),if_neg (show¬x=152 by omega)]
   rw[if_neg (show¬k*317+x=k*317+153 by omega)]
   by_cases a3:x=152
   ·rw[if_pos (show k*317+x=k*317+152 by omega),if_neg (show¬x<152 by omega),if_pos a3]
   rw[if_neg (show¬k*317+x=k*317+152 by omega),if_pos (show x<152 by omega)]
   by_cases a4:(i+1)*19<=x/\x<(i+1)*19+(n-i)*19
   ·have ht:x-(i+1)*19<(n-i)*19:=kO
    have es:((List.range ((n-i)*19)).map fun t=>d.cell (k*317+i*19+t)).getD (x-(i+1)*19) undef=d.cell (k*317+i*19+(x-(i+1)*19)):=by rw[List.getD_eq_getElem?_getD,List.getElem?_map,List.getElem?_range ht];rfl
    rw[if_pos (show k*317+(i+1)*19<=k*317+x/\k*317+x<k*317+(i+1)*19+(n-i)*19 by omega),show k*317+x-(k*317+(i+1)*19)=x-(i+1)*19 by omega,es,show k*317+i*19+(x-(i+1)*19)=k*317+(x-19)by omega,z1s d hk kO];unfold z0y z22;rw[if_pos (show x-19<154 by omega),if_pos (show x-19<152 by omega),if_neg (show¬x/19<i by omega),if_neg (show¬x/19=i by omega),show(x-19)/19=x/19-1 by omega,show(x-19)%19=x%19 by omega]
   ·rw[if_neg (show¬(k*317+(i+1)*19<=k*317+x/\k*317+x<k*317+(i+1)*19+(n-i)*19)by omega)]
    unfold z0y z22;rw[if_pos c1,if_pos (show x<152 by omega)]
    by_cases a5:x/19<i
    ·rw[if_pos a5]
    ·rw[if_neg a5,if_neg (show¬x/19=i by omega),List.getD_eq_getElem?_getD,List.getD_eq_getElem?_getD,List.getElem?_eq_none kO,List.getElem?_eq_none kO]
  ·rw[if_neg c1,if_neg (show¬(k*317+i*19<=k*317+x/\k*317+x<k*317+i*19+19)by omega),if_neg (show¬k*317+x=k*317+153 by omega),if_neg (show¬k*317+x=k*317+152 by omega),if_neg (show¬(k*317+(i+1)*19<=k*317+x/\k*317+x<k*317+(i+1)*19+(n-i)*19)by omega)]
 rw[if_neg c,if_neg (show¬(k*317+i*19<=j/\j<k*317+i*19+19)by omega),if_neg (show¬j=k*317+153 by omega),if_neg (show¬j=k*317+152 by omega),if_neg (show¬(k*317+(i+1)*19<=j/\j<k*317+(i+1)*19+(n-i)*19)by omega)]
theorem Tryz.infoBd:(Tryz.prog.info? 84).map (·.size)=some 2:=kR
theorem zR4{w0 w:World}{F:List (Nat×Obj)}{g:Nat}(h:Blk w0 F w)(hg:w0.heap.size<=g)(hF: ∀x,x∈F->x.1<g)(cs':Array Value):Blk w0 F (w.setRow g cs'):=
 ⟨z23 h.1 hg cs',fun x hx=>(setRow_other w g x.1 cs' (by have:=hF x hx;omega)).trans (h.2 x hx)⟩
theorem q4x{o:Oper}{u:Act}(V:World)(B k I:Nat)(x y:Operand)(ho:o.op= .slice 117 x (some y) none none)(hx:u.eval x= pT (some ⟨B,k*317,none⟩))(hy:u.eval y=A E ((I:Int)+1))(hI:I<=7):(execOp u.eval o).run tP V= .ok (.value (.slice (some ⟨B,(if I=7 then k*317 else k*317+(I+1)*19),none⟩) (7-I) (7-I))) V:=by
 have s1:(0:Int)<=(I:Int)+1:=kO;have s2:(I:Int)+1<=8:=kO
 by_cases c:I=7
 ·rw[if_pos c]
  subst c;unfold execOp;simp only[ho,hx,hy,Option.map_some,Option.map_none];go_simp;try rfl
 rw[if_neg c];unfold execOp;simp only[ho,hx,hy,Option.map_some,Option.map_none];go_simp;try omega
theorem q4w{o:Oper}{u:Act}(V:World)(B k I n:Nat)(x y z:Operand)(ho:o.op= .slice 117 x (some y) (some z) none)(hx:u.eval x= pT (some ⟨B,k*317,none⟩))(hy:u.eval y=A E (I:Int))(hz:u.eval z=A E (n:Int))(hI:I<=n)(hn:n<=7):(execOp u.eval o).run tP V= .ok (.value (.slice (some ⟨B,k*317+I*19,none⟩) (n-I) (8-I))) V:=by
 have s1:(0:Int)<=(I:Int):=kO;have s2:(I:Int)<=(n:Int):=kO;have s3:(0:Int)<=(n:Int):=kO;have s4:(n:Int)<=8:=kO;unfold execOp;simp only[ho,hx,hy,hz,Option.map_some,Option.map_none];go_simp;try omega
def AtS(w7:World)(B r p:Nat)(rank z:Int)(V:World):Prop:=Kept B w7 V/\V.heap[r]?=some (cT #[A E rank] 3 (0,0))/\V.cell? ⟨B,p,none⟩=some (A E z)
theorem AtS.later{w7 V V':World}{B r p:Nat}{rank z:Int}(h:AtS w7 B r p rank z V)(hB:B<V.heap.size)(hb:Below V.heap.size V V'):AtS w7 B r p rank z V':=⟨z1h h.1 hb,(hb.block r (Array.getElem?_eq_some_iff.1 h.2.1).1).trans h.2.1,(hb.cell (p:=⟨B,p,none⟩) hB).trans h.2.2⟩
theorem q39{o:Oper}{u:Act}{x y z:Operand}{W:World}{a b:Int}{g n c:Nat}{xs:List St}(ho:o.op= .build 116 #[(0,x),(1,y),(2,z)])(hx:u.eval x=A E a)(hy:u.eval y=A E b)(hz:u.eval z= .slice (some ⟨g,0,none⟩) n c):(execOp u.eval o).run tP W= .ok (.value (.agg (pgCs ⟨a,b,.slice (some ⟨g,0,none⟩) n c,xs,fun _=>0⟩))) W:=by
 have hb:Tryz.prog.built 116 #[(0,Value.int .i64 a),(1,A E b),(2,.slice (some ⟨g,0,none⟩) n c)].toList=some (pgCs ⟨a,b,.slice (some ⟨g,0,none⟩) n c,xs,fun _=>0⟩):=by kernel_rfl
 have hr:=run_build W 116 _ _ hb;unfold execOp;simp only[ho,List.map_toArray,List.map_cons,List.map_nil,hx,hy,hz,Sem.run_bind,Sem.run_pure,Result.andThen_ok,hr]
theorem Tryz.infoPg:(Tryz.prog.info? 116).map (·.size)=some 19:=kR
theorem LsAt.kept{w w':World}{l:Value}{xs:List St}{B:Nat}(h:LsAt w l xs)(hk:Kept B w w')(hne: ∀a n c,l= .slice (some a) n c->a.block≠B):LsAt w' l xs:=by
 obtain⟨a,cap,e,h1⟩:=h.lies;refine⟨⟨a,cap,e,h1.imp id fun⟨bk,off,h2,h3,h4⟩=>⟨bk,off,h2,Nat.lt_of_lt_of_le h3 hk.size,z3x h4 (hk.block bk h3 fun z=>?_)⟩⟩,h.nums⟩;exact hne ⟨bk,off,none⟩ xs.length cap (by rw[e,h2]) (Option.some.inj z)
theorem q0t{o:Oper}{u:Act}{x y:Operand}{W:World}{B q:Nat}{p:Pg}(hc:W.there B q 19)(h1:(pgCs p).all (·.oneCell')=true)(ho:o.op= .store 116 x y)(hx:u.eval x= pT (some ⟨B,q,none⟩))(hy:u.eval y= .agg (pgCs p)):(execOp u.eval o).run tP W= .ok .skip (W.setCells B q (pgCs p).toList):=by
 have hl:=run_storeVar_mid (P:=tP) W B q 116 (pgCs p) hc Tryz.infoPg h1;unfold execOp;simp only[ho,hx,hy,Instr.storeAt,Instr.sureAddr,Sem.run_bind,Sem.run_pure,Result.andThen_ok,hl]
theorem zTt(B k n:Nat)(hk:k<3)(d:Dsk)(l:Value)(xs:List St)(rank:Int)(w:World)(hD:z0f w B d)(HN:Hid ((d.g k).ps.length=n))(h7:n<=7)(HL:Hid (LsAt w l xs))(HLe:Hid (Lets xs))(HP:Hid (∀k,k<3-> ∀p,p∈(d.g k).ps->p.sl.oneCell'=true))(HB:Hid (∀a n c,l= .slice (some a) n c->a.block≠B))(hl0: -1000000<=(d.g k).last)(hl1:(d.g k).last<=1000000):
  Calls tP 40 #[pT (some ⟨B,k*317,none⟩),l,A E rank] w fun e w'=>e= rT (.tuple #[A E ((d.g k).last+1),.nilIface])/\Kept B w w'/\ ∃q:Pg,q.id=(d.g k).last+1/\q.rank=rank/\q.xs=xs/\q.tab=(fun _=>0)/\PgOk w' B q/\z0f w' B (d.put k {d.g k with ps:=Pg.ins (d.g k).ps ((d.g k).ps.findIdx fun p=>decide (rank<p.rank)) q,last:=(d.g k).last+1}):=by
 have hlt:=hD.lt;have hK0:Blk w [(w.heap.size,cT #[A E rank] 3 (0,0)),(B,cT (Array.ofFn (n:=952) fun i=>Dsk.cell d i.1) 125 (0,0))] (w.alloc (cT #[A E rank] 3)):=((Blk.nil ((bF _ _).alloc (Nat.le_refl _) _)).cons ((heap_alloc_old _ _ hD.lt).trans hD)).cons (heap_alloc_new w _);go_enter Tryz.func40,Tryz.ntmps40;go_upto_region 1 with fail
 generalize w.alloc (cT #[A E rank] 3)=w0 at hK0⊢;go_step
 (refine z00 rfl (l) w0 kG ?_);simp only[pS]
 refine z0v rfl 47 #[l] kG (R:=fun v w'=> ∃x y,v= .tuple #[.agg #[A E x,A E y],.nilIface]/\Below w0.heap.size w0 w') ((zHs (HL.out.later hK0.1) HLe.out).mono fun e w' ⟨x,y,h1,h2⟩=>⟨_,h1,x,y,rfl,h2⟩) ?_;rintro v w1 ⟨x,y,rfl,hb1⟩;simp only[pS];have hK1:=hK0.later hb1;clear hK0 hb1
 (refine z00 rfl (.tuple #[.agg #[A E x,A E y],.nilIface]) w1 kG ?_);simp only[pS]
 (refine z00 rfl (.agg #[A E x,A E y]) w1 kG ?_);simp only[pS]
 (refine z00 rfl (.nilIface) w1 kG ?_);simp only[pS]
 (refine z00 rfl (pT (some ⟨w1.heap.size,0,none⟩)) (w1.alloc (cT #[A E 0,A E 0] 84)) kG ?_);simp only[pS]
 refine wpList_store_row rfl 84 (.tmp 8) (.tmp 14) rfl w1.heap.size #[A E x,A E y] rfl rfl 84 #[A E 0,A E 0] (heap_alloc_new w1 _) Tryz.infoBd rfl kR ?_;simp only[pS];have hK2:Blk w [(w.heap.size,cT #[A E rank] 3 (0,0)),(B,cT (Array.ofFn (n:=952) fun i=>Dsk.cell d i.1) 125 (0,0))] ((w1.alloc (cT #[A E 0,A E 0] 84)).setRow w1.heap.size #[A E x,A E y]):=zR4 (hK1.later ((bF _ _).alloc (Nat.le_refl _) _)) (hK1.1.size) (fun z hz=>(Array.getElem?_eq_some_iff.1 (hK1.2 z hz)).1) _;generalize (w1.alloc (cT #[A E 0,A E 0] 84)).setRow w1.heap.size #[A E x,A E y]=w2 at hK2⊢;generalize w1.heap.size=g1;clear hK1;obtain⟨I,HI⟩: ∃I,Hid (((d.g k).ps.findIdx fun p=>decide (rank<p.rank))=I):=⟨_,rfl⟩;have hI:I<=n:=by rw[<-HI.out, <-HN.out];exact List.findIdx_le_length
 have hI0:(0:Int)<=(I:Int):=kO;have hI8:(I:Int)<8:=kO;have z8:((n:Int)==8)=false:=kZ;have hF:=zTz B k w.heap.size hk d rank w2 (hK2.2 _ (mcO _ mcS)) (by rw[HN.out];omega) (hK2.2 _ mcS);rw[HI.out]at hF;have cN:=z27 (hK2.2 _ (mcO _ mcS)) hk;rw[HN.out]at cN;go_upto_region 7 with(first|(go_at_call 67;refine hF.mono ?_;rintro e w3 ⟨rfl,hb3⟩;have hK3:=hK2.later hb3;clear hK2 hb3 cN)|fail)
 have e1:IntKind.i64.wrap ((I:Int)+1)=(I:Int)+1:=by rw[IntWalk.i64_left,z0s kO kO]
 obtain⟨o1,HO1⟩: ∃o,Hid ((if I=7 then k*317 else k*317+(I+1)*19)=o):=⟨_,rfl⟩;have s3:(I:Int)<=(n:Int):=kO;have s4:(n:Int)<=8:=kO;refine z0n (C:=Blk w [(w.heap.size,cT #[A E rank] 3 (0,0)),(B,cT (Array.ofFn (n:=952) fun i=>Dsk.cell d i.1) 125 (0,0))]) (n0:=w.heap.size) 15 [] [] kR kR (fun d _ _ _ _ h=>by cases d<;>exact h) (Blk.stable _ _) (fun w2 h=>h.1.size) hK3.drew trivial ?_;simp only[List.take_succ_cons,List.take_zero,List.drop_succ_cons,List.drop_zero,List.length_nil,Nat.reduceAdd]
 repeat(first
  |(refine z0k kI ?_;simp only[pS])
  |(refine z09 kI (v:= .slice (some ⟨B,o1,none⟩) (7-I) (7-I)) (fun w2 hC=>by rw[<-HO1.out];exact q4x w2 B k I _ _ rfl rfl rfl kO) ?_;simp only[pS])
  |(refine z09 kI (v:= .slice (some ⟨B,k*317+I*19,none⟩) (n-I) (8-I)) (fun w2 hC=>q4w w2 B k I n _ _ _ rfl rfl rfl rfl kO h7) ?_;simp only[pS])
  |(refine z09 kI (v:=?_) ?_ ?_;rotate_left;(intro w2 hC;have hDk:z0f _ B d:=(hC.2 _ (mcO _ mcS));have c0:World.cell? _ ⟨B,k*317+152,none⟩=some (A E (n:Int)):=(by have h:=z27 hDk hk;rw[HN.out]at h;exact h);go_simp;try with_reducible rfl);simp only[pS]))
 refine z0r ?_;intro w4 hC hB4;have hDk:z0f _ B d:=(hC.2 _ (mcO _ mcS));have c0:World.cell? _ ⟨B,k*317+152,none⟩=some (A E (n:Int)):=(by have h:=z27 hDk hk;rw[HN.out]at h;exact h);have hlen:((List.range ((n-I)*19)).map fun t=>d.cell (k*317+I*19+t)).length=(n-I)*19:=by rw[List.length_map,List.length_range]
 have hmin:Nat.min (n-I) (7-I)=n-I:=Nat.min_eq_left kO
 have ho1: ∀j,j<((List.range ((n-I)*19)).map fun t=>d.cell (k*317+I*19+t)).length->o1+j<952:=fun j hj=>by
  rw[hlen]at hj;rw[<-HO1.out];split<;>omega
 have hcopy:=z73 (P:=tP) w4 132 132 3 116 B o1 (7-I) (7-I) ⟨B,k*317+I*19,none⟩ (n-I) (8-I) 19 ((List.range ((n-I)*19)).map fun t=>d.cell (k*317+I*19+t)) Tryz.underlying132 Tryz.infoPg (by rw[hlen,hmin]) (fun j v hv=>by
   have hj:j<(n-I)*19:=by have:=(List.getElem?_eq_some_iff.1 hv).1;rw[hlen]at this;exact this
   rw[List.getElem?_map,List.getElem?_range hj]at hv;rw[Addr.add_mid,FnAt.at hDk _ kO];exact hv) (fun j hj=>by rw[FnAt.at hDk _ (ho1 j hj)];rfl) (fun j hj=>FnAt.frozen hDk _) (fun v hv=>by
   obtain⟨t,ht,rfl⟩:=List.mem_map.1 hv;rw[List.mem_range]at ht;exact zEp d HP.out _ kO)
 (refine z00 rfl (goInt (Nat.min (n-I) (7-I))) (w4.setCells B o1 ((List.range ((n-I)*19)).map fun t=>d.cell (k*317+I*19+t))) (zJb _ _ (.tmp 33) (.tmp 42) _ _ _ _ _ rfl rfl rfl hcopy) ?_);simp only[pS]
 obtain⟨f1,HE1⟩: ∃f1:Nat->Value,Hid ((fun j=>if k*317+(I+1)*19<=j/\j<k*317+(I+1)*19+((List.range ((n-I)*19)).map fun t=>d.cell (k*317+I*19+t)).length then((List.range ((n-I)*19)).map fun t=>d.cell (k*317+I*19+t)).getD (j-(k*317+(I+1)*19)) undef else d.cell j)=f1):=⟨_,rfl⟩
 have hF1:FnAt (w4.setCells B o1 ((List.range ((n-I)*19)).map fun t=>d.cell (k*317+I*19+t))) B f1:=by
  rw[<-HE1.out];refine FnAt.ext (FnAt.setCells hDk ((List.range ((n-I)*19)).map fun t=>d.cell (k*317+I*19+t)) o1) fun j hj=>?_
  by_cases c:I=7
  ·have hz:((List.range ((n-I)*19)).map fun t=>d.cell (k*317+I*19+t)).length=0:=by rw[hlen];omega
   rw[hz,if_neg kO,if_neg kO]
  ·have ho:o1=k*317+(I+1)*19:=by rw[<-HO1.out,if_neg c]
   rw[ho]
 have hKp5:=z1w (z0d hC.1 B) o1 ((List.range ((n-I)*19)).map fun t=>d.cell (k*317+I*19+t));have hr5:=(z14 (w:=w4) (B:=B) (show w.heap.size≠B by omega) ((List.range ((n-I)*19)).map fun t=>d.cell (k*317+I*19+t)) o1).trans (hC.2 _ mcS);have q1:f1 (k*317+152)=A E (n:Int):=by rw[<-HE1.out];dsimp only;rw[if_neg (by rw[hlen];omega),z1s d hk kO];have h:=HN.out;rw[<-h];rfl
 have q2:f1 (k*317+153)=A E (d.g k).last:=by rw[<-HE1.out];dsimp only;rw[if_neg (by rw[hlen];omega),z1s d hk kO];rfl
 obtain⟨la,HLA⟩: ∃la,Hid ((d.g k).last=la):=⟨_,rfl⟩;rw[HLA.out]at q2 hl0 hl1;have c5:=hF1.at (k*317+152) kO;rw[q1]at c5;have cf5:=hF1.frozen (k*317+152);have Q2:Hid (f1 (k*317+153)=A E la):=q2;clear hC hDk c0 hcopy hK3 hB4 ho1 q1 q2 hlen hmin;generalize w4.setCells B o1 ((List.range ((n-I)*19)).map fun t=>d.cell (k*317+I*19+t))=w5 at hF1 hKp5 hr5 c5 cf5⊢;have e5:IntKind.i64.wrap ((n:Int)+1)=(n:Int)+1:=by rw[IntWalk.i64_left,z0s kO kO]
 go_upto_region 9 with fail
 clear c5 cf5;obtain⟨f2,HE2⟩: ∃f2:Nat->Value,Hid ((fun j=>if j=k*317+152 then A E ((n:Int)+1)else f1 j)=f2):=⟨_,rfl⟩;have hF2:FnAt (w5.setCell ⟨B,k*317+152,none⟩ (A E ((n:Int)+1))) B f2:=by rw[<-HE2.out];exact hF1.set (k*317+152) _
 have hKp6:=z13 hKp5 (k*317+152) (A E ((n:Int)+1));have hr6:=(heap_setCell_other w5 ⟨B,k*317+152,none⟩ w.heap.size (A E ((n:Int)+1)) (show w.heap.size≠B by omega)).trans hr5;clear hF1 hKp5 hr5;generalize w5.setCell ⟨B,k*317+152,none⟩ (A E ((n:Int)+1))=w6 at hF2 hKp6 hr6⊢;have c6:w6.cell? ⟨B,k*317+153,none⟩=some (A E la):=by rw[FnAt.at hF2 _ kO, <-HE2.out];dsimp only;rw[if_neg kO,Q2.out]
 have cf6:=hF2.frozen (k*317+153);have e6:IntKind.i64.wrap (la+1)=la+1:=by rw[IntWalk.i64_left,z0s kO kO]
 go_upto_region 10 with fail
 clear c6 cf6;obtain⟨f3,HE3⟩: ∃f3:Nat->Value,Hid ((fun j=>if j=k*317+153 then A E (la+1)else f2 j)=f3):=⟨_,rfl⟩;have hF3:FnAt (w6.setCell ⟨B,k*317+153,none⟩ (A E (la+1))) B f3:=by rw[<-HE3.out];exact hF2.set (k*317+153) _
 have hKp7:=z13 hKp6 (k*317+153) (A E (la+1));have hr7:=(heap_setCell_other w6 ⟨B,k*317+153,none⟩ w.heap.size (A E (la+1)) (show w.heap.size≠B by omega)).trans hr6;have Q3:Hid (f3 (k*317+153)=A E (la+1)):=by rw[<-HE3.out];exact if_pos rfl
 clear hF2 hKp6 hr6;generalize w6.setCell ⟨B,k*317+153,none⟩ (A E (la+1))=w7 at hF3 hKp7 hr7⊢;have hL7:=HL.out.kept hKp7 HB.out;have hD:AtS w7 B w.heap.size (k*317+153) rank (la+1) w7.drew:=⟨z7w (z1b B w7),hr7,(FnAt.at hF3 _ kO).trans (congrArg some Q3.out)⟩;clear hr7;have hLt7:B<w7.heap.size:=hF3.lt;refine wp_region_held_drew (S:=AtS w7 B w.heap.size (k*317+153) rank (la+1)) kR hD fun _=>?_;change wpAnyH _ _ _ _ _ 14 (Array.replicate 14 false) _ _
 refine tkH (i:=0) (some 58) (pT (some ⟨B,k*317,none⟩)) rfl rfl (fun _ _=>kG) hD ?_;simp only[pS];refine tkH (i:=1) (some 59) (A E (I:Int)) rfl rfl (fun _ _=>kG) hD ?_;simp only[pS];refine tkH (i:=2) (some 60) (pT (some ⟨B,k*317,none⟩)) rfl rfl (fun _ _=>kG) hD ?_;simp only[pS];refine tkH (i:=3) (some 61) (pT (some ⟨B,k*317,none⟩)) rfl rfl (fun _ _=>kG) hD ?_;simp only[pS];refine tkH (i:=4) (some 62) (pT (some ⟨B,k*317+153,none⟩)) rfl rfl (fun _ _=>kG) hD ?_;simp only[pS];refine tkH (i:=5) (some 63) (A E (la+1)) rfl rfl (fun V hV=>by have c2:=hV.2.2;go_simp;try rfl) hD ?_;simp only[pS];refine tkH (i:=6) (some 64) (A E rank) rfl rfl (fun V hV=>by have c2:V.cell? ⟨w.heap.size,0,none⟩=some (A E rank):=(cell_of_row V _ 0 _ _ _ hV.2.1).trans rfl;go_simp;try rfl) hD ?_;simp only[pS];refine tkH (i:=7) (some 65) (l) rfl rfl (fun _ _=>kG) hD ?_;simp only[pS];refine tkH (i:=10) (some 68) (pT (some ⟨B,k*317,none⟩)) rfl rfl (fun _ _=>kG) hD ?_;simp only[pS];refine tkH (i:=11) (some 69) (pT (some ⟨B,k*317,none⟩)) rfl rfl (fun _ _=>kG) hD ?_;simp only[pS];refine wpAnyH_ready (rs:=[8]) kR kS ?_;refine z2m (some 66) 69 #[l] rfl rfl kI kG ?_ AllReadyH.nil;refine(zR0 (w:=w7.drew) (hL7.later (bF _ _).drew) HLe.out.1 HLe.out.2.1).mono ?_;rintro e w8 ⟨g,cp,rfl,hg8,hb8,ho8⟩;have hD8:=hD.later (show B<w7.drew.heap.size from hLt7) hb8;have hF8:FnAt w8 B f3:=FnAt.later (w:=w7.drew) hF3 hb8;refine⟨_,rfl,hD8,?_⟩;simp only[pS];have hg7:w7.heap.size<=g:=hg8;have hgl:=zKd ho8;clear hL7;obtain⟨q,HQ⟩: ∃q:Pg,Hid ((⟨la+1,rank,.slice (some ⟨g,0,none⟩) xs.length cp,xs,fun _=>0⟩:Pg)=q):=⟨_,rfl⟩;refine tkH (i:=9) (some 67) (.agg (pgCs q)) rfl rfl (fun V hV=>by rw[<-HQ.out];exact q39 rfl rfl rfl rfl) hD8 ?_;simp only[pS];refine tkH (i:=12) (some 70) (pT (some ⟨B,k*317+I*19,none⟩)) rfl rfl (fun _ _=>kG) hD8 ?_;simp only[pS];have hq1:(pgCs q).all (·.oneCell')=true:=by rw[<-HQ.out];kernel_rfl
 have hF9:=FnAt.setCells hF8 (pgCs q).toList (k*317+I*19);have hl19:(pgCs q).toList.length=19:=rfl;have c9:(w8.setCells B (k*317+I*19) (pgCs q).toList).cell? ⟨B,k*317+153,none⟩=some (A E (la+1)):=by rw[FnAt.at hF9 _ kO,if_neg (by rw[hl19];omega),Q3.out]
 have hD9:AtS w7 B w.heap.size (k*317+153) rank (la+1) (w8.setCells B (k*317+I*19) (pgCs q).toList):=⟨z1w hD8.1 _ _,(z14 (w:=w8) (B:=B) (show w.heap.size≠B by omega) _ _).trans hD8.2.1,c9⟩;have hs9:z1v (w8.setCells B (k*317+I*19) (pgCs q).toList) g 0 xs.length (fun j=>(nth xs j).c) (fun j=>(nth xs j).d) (fun j=>(nth xs j).s) (fun j=>(nth xs j).r) (fun j=>(nth xs j).o) (fun j=>(nth xs j).n):=z3x (z7s ho8 rfl) (z14 (show g≠B by omega) _ _);have ht9:zJh (w8.setCells B (k*317+I*19) (pgCs q).toList) (.slice (some ⟨g,0,none⟩) xs.length cp):=(zJh.row ho8).block rfl (z14 (show g≠B by omega) _ _);have hz9:g<(w8.setCells B (k*317+I*19) (pgCs q).toList).heap.size:=by rw[(z6z B (pgCs q).toList (k*317+I*19) w8).1];exact hgl
 refine wpAnyH_ready (rs:=[13]) kR kS ?_;refine z5n (w8.setCells B (k*317+I*19) (pgCs q).toList) rfl rfl kI (q0t (FnAt.there hF8 kO) hq1 rfl rfl rfl) hD9 ?_ AllReadyH.nil;simp only[pS];have hdk:z0f (w8.setCells B (k*317+I*19) (pgCs q).toList) B (d.put k {d.g k with ps:=Pg.ins (d.g k).ps I q,last:=la+1}):=FnAt.ext hF9 fun j hj=>by rw[zPc d q (la+1) hk HN.out h7 hI j hj, <-HE3.out, <-HE2.out, <-HE1.out]
 have hkp:Kept B w (w8.setCells B (k*317+I*19) (pgCs q).toList):=z18 hKp7 hD9.1;clear hF9 hF8 hD8 hD9 hF3 hD hb8 ho8 hg8;generalize w8.setCells B (k*317+I*19) (pgCs q).toList=w9 at c9 hdk hkp hs9 ht9 hz9⊢;refine wpAnyH_done kR ?_ _;go_wp2_with fail;refine bodyPost_ret (v:= .tuple #[A E (la+1),.nilIface]) (by simp[results,Tryz.results40,go_sem, *]) rfl ⟨by rw[HLA.out],hkp,q,?_⟩;rw[HLA.out,HI.out];refine⟨by rw[<-HQ.out],by rw[<-HQ.out],by rw[<-HQ.out],by rw[<-HQ.out],?_,hdk⟩;rw[<-HQ.out];exact⟨⟨g,cp,rfl,hz9,by omega,hs9⟩,HLe.out.1,HLe.out.2.1,HLe.out.2.2.1,HL.out.nums,fun i _=>(⟨by decide,by decide⟩:In64 0),ht9⟩
end
section
open Go.ChangeShapes Go.WideShapes Go.ChangeAt Go.RowKit
attribute [local simp] z05 z0a z06
theorem zLc(B k n:Nat)(hk:k<3)(d:Dsk)(l:Value)(xs:List St)(rank:Int)(w:World)(hD:z0f w B d)(HL:Hid (LsAt w l xs))(HLe:Hid (Lets xs))(HN:Hid ((d.g k).ps.length=8)):
  zR 40 #[pT (some ⟨B,k*317,none⟩),l,A E rank] w (.tuple #[A E 0,.iface 33 (A E 12)]):=by
 have hlt:=hD.lt;have hK0:Blk w [(w.heap.size,cT #[A E rank] 3 (0,0)),(B,cT (Array.ofFn (n:=952) fun i=>Dsk.cell d i.1) 125 (0,0))] (w.alloc (cT #[A E rank] 3)):=((Blk.nil ((bF _ _).alloc (Nat.le_refl _) _)).cons ((heap_alloc_old _ _ hD.lt).trans hD)).cons (heap_alloc_new w _);go_enter Tryz.func40,Tryz.ntmps40;go_upto_region 1 with fail
 generalize w.alloc (cT #[A E rank] 3)=w0 at hK0⊢;go_step
 (refine z00 rfl (l) w0 kG ?_);simp only[pS]
 refine z0v rfl 47 #[l] kG (R:=fun v w'=> ∃x y,v= .tuple #[.agg #[A E x,A E y],.nilIface]/\Below w0.heap.size w0 w') ((zHs (HL.out.later hK0.1) HLe.out).mono fun e w' ⟨x,y,h1,h2⟩=>⟨_,h1,x,y,rfl,h2⟩) ?_;rintro v w1 ⟨x,y,rfl,hb1⟩;simp only[pS];have hK1:=hK0.later hb1;clear hK0 hb1
 (refine z00 rfl (.tuple #[.agg #[A E x,A E y],.nilIface]) w1 kG ?_);simp only[pS]
 (refine z00 rfl (.agg #[A E x,A E y]) w1 kG ?_);simp only[pS]
 (refine z00 rfl (.nilIface) w1 kG ?_);simp only[pS]
 (refine z00 rfl (pT (some ⟨w1.heap.size,0,none⟩)) (w1.alloc (cT #[A E 0,A E 0] 84)) kG ?_);simp only[pS]
 refine wpList_store_row rfl 84 (.tmp 8) (.tmp 14) rfl w1.heap.size #[A E x,A E y] rfl rfl 84 #[A E 0,A E 0] (heap_alloc_new w1 _) Tryz.infoBd rfl kR ?_;simp only[pS];have hK2:Blk w [(w.heap.size,cT #[A E rank] 3 (0,0)),(B,cT (Array.ofFn (n:=952) fun i=>Dsk.cell d i.1) 125 (0,0))] ((w1.alloc (cT #[A E 0,A E 0] 84)).setRow w1.heap.size #[A E x,A E y]):=zR4 (hK1.later ((bF _ _).alloc (Nat.le_refl _) _)) (hK1.1.size) (fun z hz=>(Array.getElem?_eq_some_iff.1 (hK1.2 z hz)).1) _;generalize (w1.alloc (cT #[A E 0,A E 0] 84)).setRow w1.heap.size #[A E x,A E y]=w2 at hK2⊢;generalize w1.heap.size=g1;clear hK1;have cN:=z27 (hK2.2 _ (mcO _ mcS)) hk;rw[HN.out]at cN;go_wp2_with fail;exact bodyPost_ret (v:= .tuple #[A E 0,.iface 33 (A E 12)]) (by simp[results,Tryz.results40,go_sem, *]) rfl ⟨rfl,hK2.1⟩
theorem zCf(B k:Nat)(hk:k<3)(d:Dsk)(id:Int)(w:World)(hD:z0f w B d)(h8:(d.g k).ps.length<=8)(I:Nat)(HI:Hid (((d.g k).ps.findIdx fun p=>p.id==id)=I))(HN:Hid (I<(d.g k).ps.length)):zR 72 #[pT (some ⟨B,k*317,none⟩),A E id] w (.tuple #[A E (I:Int),.nilIface]):=by
 have hK0:Blk w [(w.heap.size,cT #[A E id] 3 (0,0)),(B,cT (Array.ofFn (n:=952) fun i=>Dsk.cell d i.1) 125 (0,0))] (w.alloc (cT #[A E id] 3)):=((Blk.nil ((bF _ _).alloc (Nat.le_refl _) _)).cons ((heap_alloc_old _ _ hD.lt).trans hD)).cons (heap_alloc_new w _);go_enter Tryz.func72,Tryz.ntmps72;go_upto_region 1 with fail
 generalize w.alloc (cT #[A E id] 3)=w0 at hK0⊢;have hF:=zQs B k w.heap.size hk d id w0 (hK0.2 _ (mcO _ mcS)) h8 (hK0.2 _ mcS);rw[HI.out]at hF;have z1:((I:Int)==((d.g k).ps.length:Int))=false:=by have:=HN.out;simp;omega
 go_upto_region 2 with(first|(go_at_call 67;refine hF.mono ?_;rintro e w3 ⟨rfl,hb3⟩;have hK3:=hK0.later hb3;clear hK0 hb3)|fail)
 have cN:=z27 (hK3.2 _ (mcO _ mcS)) hk;generalize (d.g k).ps.length=N at cN z1;go_wp2_with fail;exact bodyPost_ret (v:= .tuple #[A E (I:Int),.nilIface]) (by simp[results,Tryz.results72,go_sem, *]) rfl ⟨rfl,hK3.1⟩
theorem zOl(B k:Nat)(hk:k<3)(d:Dsk)(T:Nat->Int)(w:World)(hD:z0f w B d)(hn:(d.g k).evs.length=20):zR 51 #[pT (some ⟨B,0,none⟩),A E (k:Int),.agg (z0j T)] w (.iface 33 (A E 12)):=by
 have hK0:Blk w [(w.heap.size,cT (z0j T) 92 (0,0)),(B,cT (Array.ofFn (n:=952) fun i=>Dsk.cell d i.1) 125 (0,0))] (w.alloc (cT (z0j T) 92)):=((Blk.nil ((bF _ _).alloc (Nat.le_refl _) _)).cons ((heap_alloc_old _ _ hD.lt).trans hD)).cons (heap_alloc_new w _);have HNN:Hid ((d.g k).evs.length=20):=hn;clear hn;go_enter Tryz.func51,Tryz.ntmps51;go_upto_region 1 with fail
 generalize w.alloc (cT (z0j T) 92)=w0 at hK0⊢;go_upto_region 3 with(first|(go_at_call 90;refine(zA0 B k hk w0).mono ?_;rintro e w1 ⟨rfl,hb1⟩;subst hb1;have hK1:=hK0;have c0:World.cell? _ ⟨B,k*317+314,none⟩=some (A E 20):=(by have h:=FnAt.gate (hK1.2 _ (mcO _ mcS)) hk (j:=314) kD;unfold z0y at h;rw[if_neg kD,if_neg kD,if_pos rfl,HNN.out]at h;exact h))|fail)
 go_wp2_with fail;exact bodyPost_ret (v:= .iface 33 (A E 12)) (by simp[results,Tryz.results51,go_sem, *]) rfl ⟨rfl,hK1.1⟩
end
end Go.Proofs.YtkdflpplamebkaaGreatDoor
