/-
A part of the proof of DeskPieces; its card says what is proved.
-/
import Derived.Test.YtkdflpplamebkaaGreatDoorJp33
set_option maxHeartbeats 40000000
open Go.Value renaming int → D
open Go.IntKind renaming i64 → E
open Go.RowKit.Below renaming alloc → bA, setCell → bS, drew → bD, refl → bF
set_option maxRecDepth 1000000
set_option linter.defProp false
set_option linter.unusedVariables false
set_option linter.unusedSimpArgs false
open Go.Ending renaming returned → rT
open Go.Value renaming pointer → pT
open Go.Obj renaming cells → cT
open Go.Proofs.Tryz renaming prog → tP
namespace Go.Proofs.YtkdflpplamebkaaGreatDoor
open Go.ChangeShapes Go.WideShapes Go.ChangeAt Go.RowKit
attribute [local simp] z05 z0a z06
set_option linter.unusedVariables false
set_option linter.unusedSimpArgs false
theorem zZ0(d:Dsk){k i:Nat}(q:Pg)(hk:k<3)(hi:i<(d.g k).ps.length)(h8:(d.g k).ps.length<=8)(h1:q.id=((d.g k).ps.getD i pg0).id)(h2:q.rank=((d.g k).ps.getD i pg0).rank)(h3:q.tab=((d.g k).ps.getD i pg0).tab)(j:Nat)(_:j<952):
  (d.put k {d.g k with ps:=(d.g k).ps.set i q}).cell j=if j=k*317+i*19+2 then q.sl else d.cell j:=by
 rw[z65 d _ hk]
 by_cases c:k*317<=j/\j<k*317+317
 ·rw[if_pos c]
  obtain⟨x,rfl⟩: ∃x,j=k*317+x:=⟨j-k*317,by omega⟩;rw[Nat.add_sub_cancel_left,z1s d hk kO];unfold z0y;dsimp only
  by_cases c1:x<154
  ·rw[if_pos c1,if_pos c1]
   unfold z22
   by_cases c2:x<152
   ·rw[if_pos c2,if_pos c2,List.getD_eq_getElem?_getD,List.getElem?_set]
    by_cases c3:i=x/19
    ·rw[if_pos c3,if_pos hi]
     dsimp only[Option.getD_some];subst c3;unfold z9p
     by_cases c4:x%19=2
     ·rw[if_pos (show k*317+x=k*317+x/19*19+2 by omega),if_neg kO,if_neg kO,if_pos c4]
     ·rw[if_neg (show¬(k*317+x=k*317+x/19*19+2)by omega),h1,h2,h3,if_neg c4,if_neg c4]
    ·rw[if_neg c3,if_neg (show¬(k*317+x=k*317+i*19+2)by omega),List.getD_eq_getElem?_getD]
   ·rw[if_neg c2,if_neg c2,List.length_set,if_neg (show¬(k*317+x=k*317+i*19+2)by omega)]
  ·rw[if_neg c1,if_neg c1,if_neg (show¬(k*317+x=k*317+i*19+2)by omega)]
 rw[if_neg c,if_neg (show¬(j=k*317+i*19+2)by omega)]
theorem zSk(B k:Nat)(hk:k<3)(d:Dsk)(M:Int)(id:Int)(l:Value)(xs:List St)(w:World)(HD:Hid (DOk w B d M))(I:Nat)(HI:Hid (((d.g k).ps.findIdx fun p=>p.id==id)=I))(HN:Hid (I<(d.g k).ps.length))(HL:Hid (LsAt w l xs))(HLe:Hid (Lets xs)):
  Calls tP 53 #[pT (some ⟨B,k*317,none⟩),D E id,l] w fun e w'=>e= rT .nilIface/\Kept B w w'/\ ∃q:Pg,q.id=((d.g k).ps.getD I pg0).id/\q.rank=((d.g k).ps.getD I pg0).rank/\q.tab=((d.g k).ps.getD I pg0).tab/\q.xs=xs/\PgOk w' B q/\z0f w' B (d.put k {d.g k with ps:=(d.g k).ps.set I q}):=by
 have hF:=zCf B k hk d id w HD.out.at_ (HD.out.few k hk) I HI HN;have hI8:I<8:=by have:=HN.out;have:=HD.out.few k hk;omega
 have hI0:(0:Int)<=(I:Int):=kO;have hI1:(I:Int)<8:=kO;have hBl:=HD.out.at_.lt;go_enter Tryz.func53,Tryz.ntmps53;go_upto_region 4 with(first|(go_at_call 72;refine hF.mono ?_;rintro e w0 ⟨rfl,hb0⟩)|fail)
 go_step
 (refine z00 rfl (l) w0 kG ?_);simp only[pS]
 refine z0v rfl 47 #[l] kG (R:=fun v w'=> ∃x y,v= .tuple #[.agg #[D E x,D E y],.nilIface]/\Below w0.heap.size w0 w') ((zHs (HL.out.later hb0) HLe.out).mono fun e w' ⟨x,y,h1,h2⟩=>⟨_,h1,x,y,rfl,h2⟩) ?_;rintro v w1 ⟨x,y,rfl,hb1⟩;simp only[pS];have hbw:=hb0.trans (hb1.mono hb0.size)
 (refine z00 rfl (.tuple #[.agg #[D E x,D E y],.nilIface]) w1 kG ?_);simp only[pS]
 (refine z00 rfl (.agg #[D E x,D E y]) w1 kG ?_);simp only[pS]
 (refine z00 rfl (.nilIface) w1 kG ?_);simp only[pS]
 (refine z00 rfl (pT (some ⟨w1.heap.size,0,none⟩)) (w1.alloc (cT #[D E 0,D E 0] 84)) kG ?_);simp only[pS]
 refine wpList_store_row rfl 84 (.tmp 9) (.tmp 23) rfl w1.heap.size #[D E x,D E y] rfl rfl 84 #[D E 0,D E 0] (heap_alloc_new w1 _) Tryz.infoBd rfl kR ?_;simp only[pS];have hb2:=z23 (hbw.alloc hbw.size (cT #[D E 0,D E 0] 84)) hbw.size #[D E x,D E y];generalize (w1.alloc (cT #[D E 0,D E 0] 84)).setRow w1.heap.size #[D E x,D E y]=w2 at hb2⊢;clear hbw hb1 hb0 hF;have HCL:Hid (∀W:World,Below w.heap.size w W->Calls tP 69 #[l] W fun e w'=> ∃g cap,e= rT (.slice (some ⟨g,0,none⟩) xs.length cap)/\w.heap.size<=g/\Below w.heap.size w w'/\w'.ownsRow w.heap.size 135 6 (.slice (some ⟨g,0,none⟩) xs.length cap) xs.length (z1p xs)):=fun W hW=>(zR0 (HL.out.later hW) HLe.out.1 HLe.out.2.1).mono fun e w' ⟨g,cap,h1,h2,h3,h4⟩=>⟨g,cap,h1,Nat.le_trans hW.size h2,hW.trans (h3.mono hW.size),zNv h4 hW.size⟩;go_upto_region 7 with fail
 go_cut [] (fun wx=>Hid (∃g cap,w.heap.size<=g/\Kept B w wx/\FnAt wx B (fun j=>if j=k*317+I*19+2 then Value.slice (some ⟨g,0,none⟩) xs.length cap else d.cell j)/\wx.ownsRow w.heap.size 135 6 (.slice (some ⟨g,0,none⟩) xs.length cap) xs.length (z1p xs)))
 case first=>
  have cf:=FnAt.frozen (HD.out.later hb2).at_ (k*317+I*19+2);have cs:=z6d (HD.out.later hb2).at_ hk hI8 (show 2<19 by decide);go_region_with (go_at_call 69;refine(HCL.out _ (by first|exact hb2|exact hb2.drew|exact hb2.drew.drew|exact below_drewN hb2 _)).mono ?_;rintro e w3 ⟨g,cap,rfl,hg3,hb3,ho3⟩;have cf3:=FnAt.frozen (HD.out.later hb3).at_ (k*317+I*19+2);have cs3:=z6d (HD.out.later hb3).at_ hk hI8 (show 2<19 by decide))
  go_wp2_with fail;go_meet;exact⟨g,cap,hg3,z13 (z0d hb3 B) _ _,FnAt.set (HD.out.later hb3).at_ _ _,World.ownsRow.kept ho3 (z13 (z1b B w3) _ _) (Or.inr fun e=>by have:=(World.ownsRow.lt ho3 _ e).1;omega)⟩
 obtain⟨g,cap,hg,hkp,hfn,ho⟩:=hcut.out;clear hcut;have hgl:=zKd ho;obtain⟨q,HQ⟩: ∃q:Pg,Hid (({(d.g k).ps.getD I pg0 with sl:= .slice (some ⟨g,0,none⟩) xs.length cap,xs:=xs}:Pg)=q):=⟨_,rfl⟩;have q1:q.id=((d.g k).ps.getD I pg0).id:=by rw[<-HQ.out]
 have q2:q.rank=((d.g k).ps.getD I pg0).rank:=by rw[<-HQ.out]
 have q3:q.tab=((d.g k).ps.getD I pg0).tab:=by rw[<-HQ.out]
 have q4:q.xs=xs:=by rw[<-HQ.out]
 have q5:q.sl= .slice (some ⟨g,0,none⟩) xs.length cap:=by rw[<-HQ.out]
 have hdk:z0f wc B (d.put k {d.g k with ps:=(d.g k).ps.set I q}):=FnAt.ext hfn fun j hj=>by rw[zZ0 d q hk HN.out (HD.out.few k hk) q1 q2 q3 j hj,q5]
 have hpq:PgOk wc B q:=by
  refine⟨⟨g,cap,by rw[q5,q4],hgl,by omega,?_⟩,by rw[q4];exact HLe.out.1,by rw[q4];exact HLe.out.2.1,by rw[q4];exact HLe.out.2.2.1,by rw[q4];exact HL.out.nums,?_,by rw[q5];exact zJh.row ho⟩
  ·rw[q4];exact z7s ho rfl
  ·rw[q3];exact(HD.out.ps k hk _ (zQq pg0 HN.out)).tab
 have HR:Hid (Kept B w wc/\ ∃q:Pg,q.id=((d.g k).ps.getD I pg0).id/\q.rank=((d.g k).ps.getD I pg0).rank/\q.tab=((d.g k).ps.getD I pg0).tab/\q.xs=xs/\PgOk wc B q/\z0f wc B (d.put k {d.g k with ps:=(d.g k).ps.set I q})):=⟨hkp,q,q1,q2,q3,q4,hpq,hdk⟩;clear hkp hfn ho hgl hdk hpq q1 q2 q3 q4 q5 HQ;go_wp2_with fail;go_ret;exact⟨rfl,HR.out⟩
end Go.Proofs.YtkdflpplamebkaaGreatDoor
namespace Go.Proofs.YtkdflpplamebkaaGreatDoor
open Go.ChangeShapes Go.WideShapes Go.ChangeAt Go.RowKit
attribute [local simp] z05 z0a z06
set_option linter.unusedVariables false
set_option linter.unusedSimpArgs false
theorem q4v{o:Oper}{u:Act}(V:World)(B k I:Nat)(x y:Operand)(ho:o.op= .slice 117 x (some y) none none)(hx:u.eval x= pT (some ⟨B,k*317,none⟩))(hy:u.eval y=D E (I:Int))(hI:I<=7):(execOp u.eval o).run tP V= .ok (.value (.slice (some ⟨B,k*317+I*19,none⟩) (8-I) (8-I))) V:=by
 have s1:(0:Int)<=(I:Int):=kO;have s2:(I:Int)<=8:=kO;unfold execOp;simp only[ho,hx,hy,Option.map_some,Option.map_none];go_simp;try omega
theorem q4u{o:Oper}{u:Act}(V:World)(B k I n:Nat)(x y z:Operand)(ho:o.op= .slice 117 x (some y) (some z) none)(hx:u.eval x= pT (some ⟨B,k*317,none⟩))(hy:u.eval y=D E ((I:Int)+1))(hz:u.eval z=D E (n:Int))(hI:I+1<=n)(hn:n<=8):(execOp u.eval o).run tP V= .ok (.value (.slice (some ⟨B,(if I=7 then k*317 else k*317+(I+1)*19),none⟩) (n-1-I) (7-I))) V:=by
 have s1:(0:Int)<=(I:Int)+1:=kO;have s2:(I:Int)+1<=(n:Int):=kO;have s3:(0:Int)<=(n:Int):=kO;have s4:(n:Int)<=8:=kO
 by_cases c:I=7
 ·rw[if_pos c]
  subst c;obtain rfl:n=8:=by omega
  have hy8:u.eval y=D E 8:=hy;have hz8:u.eval z=D E 8:=hz;clear s1 s2 s3 s4 hI hn hy hz;unfold execOp;simp only[ho,hx,hy8,hz8,Option.map_some,Option.map_none];go_simp;try rfl
 rw[if_neg c];have e1:n-1-I=n-(I+1):=kO;have e2:7-I=8-(I+1):=kO;rw[e1,e2];clear e1 e2;unfold execOp;simp only[ho,hx,hy,hz,Option.map_some,Option.map_none];go_simp;try omega
theorem zZ3(d:Dsk){k I n:Nat}(hk:k<3)(hn:(d.g k).ps.length=n)(h8:n<=8)(hI:I<n)(j:Nat)(_:j<952):
  (d.put k {d.g k with ps:=(d.g k).ps.eraseIdx I}).cell j=if k*317+(n-1)*19<=j/\j<k*317+(n-1)*19+(pgCs pg0).toList.length then(pgCs pg0).toList.getD (j-(k*317+(n-1)*19)) undef else if j=k*317+152 then D E ((n:Int)-1)else if k*317+I*19<=j/\j<k*317+I*19+((List.range ((n-1-I)*19)).map fun t=>d.cell (k*317+(I+1)*19+t)).length then((List.range ((n-1-I)*19)).map fun t=>d.cell (k*317+(I+1)*19+t)).getD (j-(k*317+I*19)) undef else d.cell j:=by
 have hl:(pgCs pg0).toList.length=19:=rfl;have hc:((List.range ((n-1-I)*19)).map fun t=>d.cell (k*317+(I+1)*19+t)).length=(n-1-I)*19:=by rw[List.length_map,List.length_range]
 have hel:((d.g k).ps.eraseIdx I).length=n-1:=by rw[List.length_eraseIdx,if_pos kO,hn]
 rw[hl,hc,z65 d _ hk]
 by_cases c:k*317<=j/\j<k*317+317
 ·rw[if_pos c]
  obtain⟨x,rfl⟩: ∃x,j=k*317+x:=⟨j-k*317,by omega⟩;rw[Nat.add_sub_cancel_left]
  by_cases c1:x<154
  ·unfold z0y
   dsimp only;rw[if_pos c1];unfold z22
   by_cases c2:x<152
   ·rw[if_pos c2,List.getD_eq_getElem?_getD,List.getElem?_eraseIdx]
    by_cases c3:(n-1)*19<=x/\x<(n-1)*19+19
    ·rw[if_pos (show(k*317+(n-1)*19<=k*317+x/\k*317+x<k*317+(n-1)*19+19)by omega),if_neg (show¬x/19<I by omega),List.getElem?_eq_none kO,show k*317+x-(k*317+(n-1)*19)=x%19 by omega,zId pg0 kO]
     rfl
    ·rw[if_neg (show¬(k*317+(n-1)*19<=k*317+x/\k*317+x<k*317+(n-1)*19+19)by omega),if_neg (show¬(k*317+x=k*317+152)by omega)]
     by_cases c4:I*19<=x/\x<I*19+(n-1-I)*19
     ·rw[if_pos (show(k*317+I*19<=k*317+x/\k*317+x<k*317+I*19+(n-1-I)*19)by omega),if_neg (show¬x/19<I by omega),List.getD_eq_getElem?_getD,List.getElem?_map,List.getElem?_range kO]
      show _=d.cell (k*317+(I+1)*19+(k*317+x-(k*317+I*19)));rw[show k*317+(I+1)*19+(k*317+x-(k*317+I*19))=k*317+(x+19)by omega,z1s d hk kO];unfold z0y;rw[if_pos (show x+19<154 by omega)];unfold z22;rw[if_pos (show x+19<152 by omega),List.getD_eq_getElem?_getD,show(x+19)/19=x/19+1 by omega,show(x+19)%19=x%19 by omega]
     ·rw[if_neg (show¬(k*317+I*19<=k*317+x/\k*317+x<k*317+I*19+(n-1-I)*19)by omega),z1s d hk kO]
      unfold z0y;rw[if_pos c1];unfold z22;rw[if_pos c2,List.getD_eq_getElem?_getD]
      by_cases c5:x/19<I
      ·rw[if_pos c5]
      ·rw[if_neg c5,List.getElem?_eq_none kO,List.getElem?_eq_none kO]
   ·rw[if_neg c2,if_neg (show¬(k*317+(n-1)*19<=k*317+x/\k*317+x<k*317+(n-1)*19+19)by omega)]
    by_cases c3:x=152
    ·rw[if_pos c3,if_pos (show(k*317+x=k*317+152)by omega),hel]
     congr 1;omega
    ·rw[if_neg c3,if_neg (show¬(k*317+x=k*317+152)by omega),if_neg (show¬(k*317+I*19<=k*317+x/\k*317+x<k*317+I*19+(n-1-I)*19)by omega),z1s d hk kO]
     unfold z0y;rw[if_pos c1];unfold z22;rw[if_neg c2,if_neg c3]
  ·rw[if_neg (show¬(k*317+(n-1)*19<=k*317+x/\k*317+x<k*317+(n-1)*19+19)by omega),if_neg (show¬(k*317+x=k*317+152)by omega),if_neg (show¬(k*317+I*19<=k*317+x/\k*317+x<k*317+I*19+(n-1-I)*19)by omega),z1s d hk kO]
   unfold z0y;dsimp only;rw[if_neg c1,if_neg c1]
 rw[if_neg c,if_neg (show¬(k*317+(n-1)*19<=j/\j<k*317+(n-1)*19+19)by omega),if_neg (show¬(j=k*317+152)by omega),if_neg (show¬(k*317+I*19<=j/\j<k*317+I*19+(n-1-I)*19)by omega)]
theorem zYi(B k:Nat)(hk:k<3)(d:Dsk)(M:Int)(id:Int)(w:World)(HD:Hid (DOk w B d M))(I:Nat)(HI:Hid (((d.g k).ps.findIdx fun p=>p.id==id)=I))(HIN:Hid (I<(d.g k).ps.length)):
  Calls tP 49 #[pT (some ⟨B,k*317,none⟩),D E id] w fun e w'=>e= rT .nilIface/\Kept B w w'/\z0f w' B (d.put k {d.g k with ps:=(d.g k).ps.eraseIdx I}):=by
 have hF:=zCf B k hk d id w HD.out.at_ (HD.out.few k hk) I HI HIN;obtain⟨n,HN⟩: ∃n,Hid ((d.g k).ps.length=n):=⟨_,rfl⟩;have h8:n<=8:=by have:=HD.out.few k hk;rw[HN.out]at this;exact this
 have hIn:I<n:=by have:=HIN.out;rw[HN.out]at this;exact this
 obtain⟨m,hm⟩: ∃m,n=m+1:=⟨n-1,by omega⟩;have HMN:Hid (n=m+1):=hm;have hm8:m<8:=kO;clear hm;have hI0:(0:Int)<=(I:Int):=kO;have hBl:=HD.out.at_.lt;have HP:Hid (∀k,k<3-> ∀p,p∈(d.g k).ps->p.sl.oneCell'=true):=HD.out.one;go_enter Tryz.func49,Tryz.ntmps49;go_upto_region 4 with(first|(go_at_call 72;refine hF.mono ?_;rintro e w3 ⟨rfl,hb3⟩)|fail)
 have hD3:=(HD.out.later hb3).at_;have hk3:Kept B w w3:=z0d hb3 B;have hK3:Blk w3 [(B,cT (Array.ofFn (n:=952) fun i=>Dsk.cell d i.1) 125 (0,0))] w3:=(Blk.nil (bF _ _)).cons hD3;clear hb3 hF hD3;have e1:IntKind.i64.wrap ((I:Int)+1)=(I:Int)+1:=by rw[IntWalk.i64_left,z0s kO kO]
 obtain⟨o1,HO1⟩: ∃o,Hid ((if I=7 then k*317 else k*317+(I+1)*19)=o):=⟨_,rfl⟩;refine z0n (C:=Blk w3 [(B,cT (Array.ofFn (n:=952) fun i=>Dsk.cell d i.1) 125 (0,0))]) (n0:=w3.heap.size) 15 [] [] kR kR (fun d _ _ _ _ h=>by cases d<;>exact h) (Blk.stable _ _) (fun w2 h=>h.1.size) hK3.drew trivial ?_;simp only[List.take_succ_cons,List.take_zero,List.drop_succ_cons,List.drop_zero,List.length_nil,Nat.reduceAdd]
 repeat(first
  |(refine z0k kI ?_;simp only[pS])
  |(refine z09 kI (v:= .slice (some ⟨B,k*317+I*19,none⟩) (8-I) (8-I)) (fun w2 hC=>q4v w2 B k I _ _ rfl rfl rfl kO) ?_;simp only[pS])
  |(refine z09 kI (v:= .slice (some ⟨B,o1,none⟩) (n-1-I) (7-I)) (fun w2 hC=>by rw[<-HO1.out];exact q4u w2 B k I n _ _ _ rfl rfl rfl rfl kO h8) ?_;simp only[pS])
  |(refine z09 kI (v:=?_) ?_ ?_;rotate_left;(intro w2 hC;have hDk:z0f _ B d:=(hC.2 _ mcS);have c0:World.cell? _ ⟨B,k*317+152,none⟩=some (D E (n:Int)):=(by have h:=z27 hDk hk;rw[HN.out]at h;exact h);go_simp;try with_reducible rfl);simp only[pS]))
 refine z0r ?_;intro w4 hC hB4;have hDk:z0f _ B d:=(hC.2 _ mcS);have c0:World.cell? _ ⟨B,k*317+152,none⟩=some (D E (n:Int)):=(by have h:=z27 hDk hk;rw[HN.out]at h;exact h);have hlen:((List.range ((n-1-I)*19)).map fun t=>d.cell (k*317+(I+1)*19+t)).length=(n-1-I)*19:=by rw[List.length_map,List.length_range]
 have hmin:Nat.min (n-1-I) (8-I)=n-1-I:=Nat.min_eq_left kO
 have hcopy:=z73 (P:=tP) w4 132 132 3 116 B (k*317+I*19) (8-I) (8-I) ⟨B,o1,none⟩ (n-1-I) (7-I) 19 ((List.range ((n-1-I)*19)).map fun t=>d.cell (k*317+(I+1)*19+t)) Tryz.underlying132 Tryz.infoPg (by rw[hlen,hmin]) (fun j v hv=>by
   have hj:j<(n-1-I)*19:=by have:=(List.getElem?_eq_some_iff.1 hv).1;rw[hlen]at this;exact this
   rw[List.getElem?_map,List.getElem?_range hj]at hv;have ho:o1=k*317+(I+1)*19:=by rw[<-HO1.out,if_neg kO]
   rw[Addr.add_mid,ho,FnAt.at hDk _ kO];exact hv) (fun j hj=>by rw[hlen]at hj;rw[FnAt.at hDk _ kO];rfl) (fun j hj=>FnAt.frozen hDk _) (fun v hv=>by
   obtain⟨t,ht,rfl⟩:=List.mem_map.1 hv;rw[List.mem_range]at ht;exact zEp d HP.out _ kO)
 (refine z00 rfl (goInt (Nat.min (n-1-I) (8-I))) (w4.setCells B (k*317+I*19) ((List.range ((n-1-I)*19)).map fun t=>d.cell (k*317+(I+1)*19+t))) (zJb _ _ (.tmp 20) (.tmp 30) _ _ _ _ _ rfl rfl rfl hcopy) ?_);simp only[pS]
 obtain⟨f1,HE1⟩: ∃f1:Nat->Value,Hid ((fun j=>if k*317+I*19<=j/\j<k*317+I*19+((List.range ((n-1-I)*19)).map fun t=>d.cell (k*317+(I+1)*19+t)).length then((List.range ((n-1-I)*19)).map fun t=>d.cell (k*317+(I+1)*19+t)).getD (j-(k*317+I*19)) undef else d.cell j)=f1):=⟨_,rfl⟩;have hF1:FnAt (w4.setCells B (k*317+I*19) ((List.range ((n-1-I)*19)).map fun t=>d.cell (k*317+(I+1)*19+t))) B f1:=by rw[<-HE1.out];exact FnAt.setCells hDk ((List.range ((n-1-I)*19)).map fun t=>d.cell (k*317+(I+1)*19+t)) (k*317+I*19)
 have hKp:=z1w (z1h hk3 hC.1) (k*317+I*19) ((List.range ((n-1-I)*19)).map fun t=>d.cell (k*317+(I+1)*19+t));have q1:f1 (k*317+152)=D E (n:Int):=by rw[<-HE1.out];dsimp only;rw[if_neg (by rw[hlen];omega),z1s d hk kO];have h:=HN.out;rw[<-h];rfl
 clear hC hDk c0 hcopy hK3 hB4 hk3;generalize w4.setCells B (k*317+I*19) ((List.range ((n-1-I)*19)).map fun t=>d.cell (k*317+(I+1)*19+t))=w4' at hF1 hKp⊢;have c1:=hF1.at (k*317+152) kO;rw[q1]at c1;have cf:=hF1.frozen (k*317+152);have e2:IntKind.i64.wrap ((n:Int)-1)=(m:Int):=by rw[IntWalk.i64_left,z0s kO kO];have:=HMN.out;omega
 go_upto_region 6 with fail
 obtain⟨f2,HE2⟩: ∃f2:Nat->Value,Hid ((fun j=>if j=k*317+152 then D E (m:Int)else f1 j)=f2):=⟨_,rfl⟩;have HC2:Hid (some (f2 (k*317+152))=some (D E (m:Int))):=by rw[<-HE2.out];exact congrArg some (if_pos rfl)
 have hF2:FnAt (w4'.setCell ⟨B,k*317+152,none⟩ (D E (m:Int))) B f2:=by rw[<-HE2.out];exact hF1.set (k*317+152) _
 have hKp2:=z13 hKp (k*317+152) (D E (m:Int));clear hF1 hKp c1 cf q1 e1;generalize w4'.setCell ⟨B,k*317+152,none⟩ (D E (m:Int))=w5 at hF2 hKp2⊢;have hm0:(0:Int)<=(m:Int):=kO;have hm1:(m:Int)<8:=kO;have hK5:Blk w5 [(B,cT (Array.ofFn (n:=952) fun i=>f2 i.1) 125 (0,0))] w5:=(Blk.nil (bF _ _)).cons hF2;clear hF2;refine z0n (C:=Blk w5 [(B,cT (Array.ofFn (n:=952) fun i=>f2 i.1) 125 (0,0))]) (n0:=w5.heap.size) 9 [] [] kR kR (fun d _ _ _ _ h=>by cases d<;>exact h) (Blk.stable _ _) (fun w2 h=>h.1.size) hK5.drew trivial ?_;simp only[List.take_succ_cons,List.take_zero,List.drop_succ_cons,List.drop_zero,List.length_nil,Nat.reduceAdd]
 repeat(first
  |(refine z0k kI ?_;simp only[pS])
  |(refine z09 kI (v:=?_) ?_ ?_;rotate_left;(intro w2 hC;have hDk:FnAt _ B f2:=(hC.2 _ mcS);have c0:World.cell? _ ⟨B,k*317+152,none⟩=some (D E (m:Int)):=(FnAt.at hDk _ kO).trans HC2.out;go_simp;try with_reducible rfl);simp only[pS]))
 refine z0r ?_;intro w6 hC hB6;have hDk:FnAt _ B f2:=(hC.2 _ mcS);have c0:World.cell? _ ⟨B,k*317+152,none⟩=some (D E (m:Int)):=(FnAt.at hDk _ kO).trans HC2.out;have hth:=FnAt.there hDk (o:=k*317+m*19) (n:=19) kO;refine wpList_store_mid rfl 116 _ _ rfl B (k*317+m*19) (pgCs pg0) kG rfl hth Tryz.infoPg (q3z rfl) ?_;simp only[pS];have hF3:=FnAt.setCells hDk (pgCs pg0).toList (k*317+m*19);have hKp3:=z1w (z1h hKp2 hC.1) (k*317+m*19) (pgCs pg0).toList;clear hC hDk c0 hth hK5 hKp2 hB6;generalize w6.setCells B (k*317+m*19) (pgCs pg0).toList=w7 at hF3 hKp3⊢
 have hF4:z0f w7 B (d.put k {d.g k with ps:=(d.g k).ps.eraseIdx I}):=FnAt.ext hF3 fun j hj=>by
  have e:=zZ3 d hk HN.out h8 hIn j hj;have e3:n-1=m:=by have:=HMN.out;omega
  have e4:(n:Int)-1=(m:Int):=by have:=HMN.out;omega
  rw[e3,e4]at e;rw[e, <-HE2.out, <-HE1.out,e3]
 clear hF3;go_wp2_with fail;go_ret;exact⟨rfl,hKp3,hF4⟩
end Go.Proofs.YtkdflpplamebkaaGreatDoor
namespace Go.Proofs.YtkdflpplamebkaaGreatDoor
open Go.ChangeShapes Go.WideShapes Go.ChangeAt Go.RowKit
attribute [local simp] z05 z0a z06
set_option linter.unusedVariables false
set_option linter.unusedSimpArgs false
theorem q2h(may:Nat->Int)(K:Nat)(hK:K<3)(h0: ∀k,k<K->1<=may k)(h1: ∀k,k<K->may k<=1000)(hbad:may K<1\/1000<may K)(w:World):
  zR 36 #[.agg #[D E (may 0),D E (may 1),D E (may 2)]] w (.tuple #[pT none,.iface 33 (D E 2)]):=by
 have hK0:Blk w [(w.heap.size,cT #[D E (may 0),D E (may 1),D E (may 2)] 67 (0,0))] (w.alloc (cT #[D E (may 0),D E (may 1),D E (may 2)] 67)):=(Blk.nil ((bF _ _).alloc (Nat.le_refl _) _)).cons (heap_alloc_new w _);have hz0:(w.alloc (cT #[D E (may 0),D E (may 1),D E (may 2)] 67)).heap.size=w.heap.size+1:=by simp
 go_enter Tryz.func36,Tryz.ntmps36;go_upto_region 1 with fail
 generalize w.alloc (cT #[D E (may 0),D E (may 1),D E (may 2)] 67)=w0 at hK0 hz0⊢;go_step;refine wpList_buildTo rfl 125 #[] rfl (some 7) rfl z3f (by simpa using zHh) ?_;simp only[pS]
 (refine z00 rfl (pT (some ⟨w.heap.size+1,0,none⟩)) (w0.alloc (cT z3f 125)) (by rw[<-hz0];go_simp;try rfl) ?_);simp only[pS]
 have hb1:Below w.heap.size w (w0.alloc (cT z3f 125)):=hK0.1.alloc hK0.1.size _;have hm1:=(heap_alloc_old w0 (cT z3f 125) (hK0.lt mcS)).trans (hK0.2 _ mcS);have hd1:z0f (w0.alloc (cT z3f 125)) (w.heap.size+1) (z3o may 0):=by rw[zGi, <-hz0];exact heap_alloc_new w0 _
 clear hK0;generalize w0.alloc (cT z3f 125)=w1 at hb1 hm1 hd1⊢;have HI:Hid (Below w.heap.size w w1/\z0f w1 (w.heap.size+1) (z3o may 0)):=⟨hb1,hd1⟩;go_upto_region 2 with fail
 go_step;refine wpList_load_row rfl 67 (.tmp 1) rfl w.heap.size rfl 67 #[D E (may 0),D E (may 1),D E (may 2)] (0,0) _ hm1 Tryz.underlying67 rfl (q44 _ _ _) ?_;simp only[pS];clear hb1 hm1 hd1;go_upto_region 3 with fail
 go_loopw [10] (fun kv wr=> ∃k:Nat,kv=D E k/\k<=K/\Hid (Below w.heap.size w wr/\z0f wr (w.heap.size+1) (z3o may k))) (fun kv _=>3-(intOf kv).toNat)
 case atStart=>exact⟨0,rfl,Nat.zero_le _,HI.out⟩
 case round=>
  obtain⟨k,rfl,hk3,H⟩:=hrel;clear HI
  by_cases hkK:k<K
  ·have a0:=h0 k hkK
   have a1:=h1 k hkK;have hk:k<3:=kO;have cf:=FnAt.frozen H.out.2 (k*317+315);have c0:=zCo H.out.2 hk
   have HN:Hid (Below w.heap.size w (wr.setCell ⟨w.heap.size+1,k*317+315,none⟩ (D E (may k)))/\z0f (wr.setCell ⟨w.heap.size+1,k*317+315,none⟩ (D E (may k))) (w.heap.size+1) (z3o may (k+1))):=by
    refine⟨H.out.1.setCell (show w.heap.size<=w.heap.size+1 by omega) _,?_⟩;rw[zGj];exact FnAt.ext (FnAt.set H.out.2 (k*317+315) _) fun j hj=>zR2 (z3o may k) (may k) hk j hj
   have t1:decide (may k<1)=false:=decide_eq_false kO;have t2:decide (1000<may k)=false:=decide_eq_false kO;rcases(show k=0\/k=1 by omega)with rfl|rfl
   ·simp only[Nat.zero_mul,Nat.one_mul,Nat.zero_add,Nat.reduceMul,Nat.reduceAdd]at c0 cf HN t1 t2
    push_cast
    go_upto_region 4 with fail
    go_step
    (refine z00 rfl (D E 0) wr kG ?_);simp only[pS]
    (refine z00 rfl (D E (may 0)) wr kR ?_);simp only[pS]
    go_wp2_with fail;go_roundw
    case rel=>exact⟨1,by go_num,by omega,HN.out⟩
    case measure=>simp[intOf]
   ·simp only[Nat.zero_mul,Nat.one_mul,Nat.zero_add,Nat.reduceMul,Nat.reduceAdd]at c0 cf HN t1 t2
    push_cast
    go_upto_region 4 with fail
    go_step
    (refine z00 rfl (D E 1) wr kG ?_);simp only[pS]
    (refine z00 rfl (D E (may 1)) wr kR ?_);simp only[pS]
    go_wp2_with fail;go_roundw
    case rel=>exact⟨2,by go_num,by omega,HN.out⟩
    case measure=>simp[intOf]
  ·have hke:k=K:=kO
   subst hke;have hbw:=H.out.1;clear H h0 h1
   by_cases c:may k<1
   ·have t1:decide (may k<1)=true:=decide_eq_true c
    clear c hbad;rcases(show k=0\/k=1\/k=2 by omega)with rfl|rfl|rfl
    ·push_cast
     go_upto_region 4 with fail
     go_step
     (refine z00 rfl (D E 0) wr kG ?_);simp only[pS]
     (refine z00 rfl (D E (may 0)) wr kR ?_);simp only[pS]
     go_wp2_with fail;exact bodyPost_ret (v:= .tuple #[pT none,.iface 33 (D E 2)]) (by simp[results,Tryz.results36,go_sem, *]) rfl ⟨rfl,hbw⟩
    ·push_cast
     go_upto_region 4 with fail
     go_step
     (refine z00 rfl (D E 1) wr kG ?_);simp only[pS]
     (refine z00 rfl (D E (may 1)) wr kR ?_);simp only[pS]
     go_wp2_with fail;exact bodyPost_ret (v:= .tuple #[pT none,.iface 33 (D E 2)]) (by simp[results,Tryz.results36,go_sem, *]) rfl ⟨rfl,hbw⟩
    ·push_cast
     go_upto_region 4 with fail
     go_step
     (refine z00 rfl (D E 2) wr kG ?_);simp only[pS]
     (refine z00 rfl (D E (may 2)) wr kR ?_);simp only[pS]
     go_wp2_with fail;exact bodyPost_ret (v:= .tuple #[pT none,.iface 33 (D E 2)]) (by simp[results,Tryz.results36,go_sem, *]) rfl ⟨rfl,hbw⟩
   ·have t1:decide (may k<1)=false:=decide_eq_false c
    have t2:decide (1000<may k)=true:=decide_eq_true kO;clear c hbad;rcases(show k=0\/k=1\/k=2 by omega)with rfl|rfl|rfl
    ·push_cast
     go_upto_region 4 with fail
     go_step
     (refine z00 rfl (D E 0) wr kG ?_);simp only[pS]
     (refine z00 rfl (D E (may 0)) wr kR ?_);simp only[pS]
     go_wp2_with fail;exact bodyPost_ret (v:= .tuple #[pT none,.iface 33 (D E 2)]) (by simp[results,Tryz.results36,go_sem, *]) rfl ⟨rfl,hbw⟩
    ·push_cast
     go_upto_region 4 with fail
     go_step
     (refine z00 rfl (D E 1) wr kG ?_);simp only[pS]
     (refine z00 rfl (D E (may 1)) wr kR ?_);simp only[pS]
     go_wp2_with fail;exact bodyPost_ret (v:= .tuple #[pT none,.iface 33 (D E 2)]) (by simp[results,Tryz.results36,go_sem, *]) rfl ⟨rfl,hbw⟩
    ·push_cast
     go_upto_region 4 with fail
     go_step
     (refine z00 rfl (D E 2) wr kG ?_);simp only[pS]
     (refine z00 rfl (D E (may 2)) wr kR ?_);simp only[pS]
     go_wp2_with fail;exact bodyPost_ret (v:= .tuple #[pT none,.iface 33 (D E 2)]) (by simp[results,Tryz.results36,go_sem, *]) rfl ⟨rfl,hbw⟩
theorem DOk.gone{w w':World}{B k:Nat}{d:Dsk}{M:Int}{I:Nat}(h:DOk w B d M)(hk:k<3)(hkp:Kept B w w')(hD:z0f w' B (d.put k {d.g k with ps:=(d.g k).ps.eraseIdx I})):DOk w' B (d.put k {d.g k with ps:=(d.g k).ps.eraseIdx I}) M:=by
 refine⟨hD,?_,?_,?_,?_,?_,?_,?_,?_,?_,?_,h.ran0,h.ran1⟩<;>intro j hj<;>rw[z3r]<;>split
 ·exact fun p hp=>(h.ps k hk p (List.mem_of_mem_eraseIdx hp)).kept hkp
 ·exact fun p hp=>(h.ps j hj p hp).kept hkp
 ·show((d.g k).ps.eraseIdx I).length<=8;have:=List.length_eraseIdx_le (d.g k).ps I;have:=h.few k hk;omega
 ·exact h.few j hj
 ·exact h.evs k hk
 ·exact h.evs j hj
 ·exact h.told k hk
 ·exact h.told j hj
 ·exact h.may0 k hk
 ·exact h.may0 j hj
 ·exact h.may1 k hk
 ·exact h.may1 j hj
 ·exact h.left0 k hk
 ·exact h.left0 j hj
 ·exact h.left1 k hk
 ·exact h.left1 j hj
 ·exact h.last0 k hk
 ·exact h.last0 j hj
 ·exact h.last1 k hk
 exact h.last1 j hj
theorem DOk.swap{w w':World}{B k:Nat}{d:Dsk}{M:Int}{I:Nat}{q:Pg}(hq:PgOk w' B q)(h:DOk w B d M)(hk:k<3)(hkp:Kept B w w')(hD:z0f w' B (d.put k {d.g k with ps:=(d.g k).ps.set I q})):DOk w' B (d.put k {d.g k with ps:=(d.g k).ps.set I q}) M:=by
 refine⟨hD,?_,?_,?_,?_,?_,?_,?_,?_,?_,?_,h.ran0,h.ran1⟩<;>intro j hj<;>rw[z3r]<;>split
 ·exact fun p hp=>(List.mem_or_eq_of_mem_set hp).elim (fun hp=>(h.ps k hk p hp).kept hkp) (fun e=>by rw[e];exact hq)
 ·exact fun p hp=>(h.ps j hj p hp).kept hkp
 ·show((d.g k).ps.set I q).length<=8;rw[List.length_set];exact h.few k hk
 ·exact h.few j hj
 ·exact h.evs k hk
 ·exact h.evs j hj
 ·exact h.told k hk
 ·exact h.told j hj
 ·exact h.may0 k hk
 ·exact h.may0 j hj
 ·exact h.may1 k hk
 ·exact h.may1 j hj
 ·exact h.left0 k hk
 ·exact h.left0 j hj
 ·exact h.left1 k hk
 ·exact h.left1 j hj
 ·exact h.last0 k hk
 ·exact h.last0 j hj
 ·exact h.last1 k hk
 exact h.last1 j hj
end Go.Proofs.YtkdflpplamebkaaGreatDoor
namespace Go.Proofs.YtkdflpplamebkaaGreatDoor
open Go.ChangeShapes Go.WideShapes Go.ChangeAt Go.RowKit Go.Shelf
variable {ex:Ext}
attribute [local go_sem] Oper.semAt_some

def feed(t:ByteArray):Int:=Lib.indexByte t.data.toList 10
def z1y:Nat->ByteArray->List ByteArray
 |0,t=>[t]
 |f+1,t=>if 0<=feed t then t.extract 0 (feed t).toNat::z1y f (t.extract ((feed t).toNat+1) t.size)else [t]
def z29(s:ByteArray):List ByteArray:=z1y s.size s
theorem q5z(t:ByteArray):feed t<t.size/\ -1<=feed t:=by
 have h:=z7x t.data.toList 10;rw[z6j]at h;exact⟨h,Lib.indexByte_ge _ _⟩
theorem zKv{f:Nat}{t:ByteArray}(h:0<=feed t):z1y (f+1) t=t.extract 0 (feed t).toNat::z1y f (t.extract ((feed t).toNat+1) t.size):=by rw[z1y,if_pos h]
theorem zKu{f:Nat}{t:ByteArray}(h: ¬0<=feed t):z1y f t=[t]:=by
 cases f with
 |zero=>rfl
 |succ f=>rw[z1y,if_neg h]
theorem zGs(t:ByteArray)(w:World):zS 97 #[.string t,.string ⟨#[10]⟩] w (D E (feed t)):=Tryz.strings_Index_one t 10 w
theorem zVy(n:Nat)(hn:1<=n)(l Bp Bs Bv n₀:Nat)(h1:Bp≠Bs)(h2:Bv≠Bs)(s:ByteArray)(hs:s.size<=100000)(J Jx:List z2u->World->Prop)(W:World)(hJ:zPl Bs J)
  (hY: ∀(pre:List z2u)(x:z2u) W,J pre W->pre.length<(z29 s).length->YieldAt Fence.wide (n-1) tP l #[.string x.1] W fun e W'=>
   (e= rT (.bool true)/\J (pre++[x]) W'/\z2q n₀ [Bp,Bs,Bv] W W')\/(e= rT (.bool false)/\Jx (pre++[x]) W'))
  (bP:Boxed W Bp 9 (.string ⟨#[10]⟩))(bS:Boxed W Bs 9 (.string s))(bV:Boxed W Bv 3 (D E 0))(h0:J [] W):
  CallsIn Fence.wide n tP 95 #[.func (.yield l) #[] #[],pT (some ⟨Bp,0,none⟩),pT (some ⟨Bs,0,none⟩),pT (some ⟨Bv,0,none⟩)] W fun e W'=>(∃v,e= rT v)/\
   ((∃ys:List z2u,ys.map (·.1)=z29 s/\J ys W')\/(∃pre:List z2u,pre.map (·.1)<+:z29 s/\Jx pre W')):=by
 refine callsIn_of_wp Tryz.func95 rfl trivial ?_ rfl;simp only[Tryz.ntmps95,List.size_toArray,List.length_cons,List.length_nil,Nat.reduceAdd,Nat.reduceSub,Array.replicate_succ,Array.replicate_zero,List.push_toArray,List.append_toArray,List.nil_append,List.cons_append];have hf1:Fence.wide.fn 97:=trivial;have cP:=bP.cell;gi_wp2
 gi_loopw [] (fun wr=> ∃(pre:List z2u)(t:ByteArray)(fuel:Nat),Boxed wr Bs 9 (.string t)/\Boxed wr Bp 9 (.string ⟨#[10]⟩)/\Boxed wr Bv 3 (D E 0)/\pre.map (·.1)++z1y fuel t=z29 s/\t.size<=fuel/\t.size<=100000/\J pre wr) (fun wr=>zHi wr Bs)
 case atStart=>exact⟨[],s,s.size,bS,bP,bV,rfl,Nat.le_refl _,hs,h0⟩
 case round=>
  obtain⟨pre,t,fuel,bS',bP',bV',hacc,hfu,htz,hJr⟩:=hrel;have cS:=bS'.cell;have cP':=bP'.cell;have cV:=bV'.cell;have hsm:=q5z t
  by_cases hi:0<=feed t
  ·obtain⟨f,rfl⟩: ∃f,fuel=f+1:=⟨fuel-1,by omega⟩
   rw[zKv hi]at hacc;obtain⟨k,hk⟩:=Int.eq_ofNat_of_zero_le hi;rw[hk]at hacc hsm;have hkl:k<t.size:=by have:=hsm.1;omega
   have hlen:pre.length<(z29 s).length:=by rw[<-hacc];simp
   have HA:Hid (pre.map (·.1)++t.extract 0 k::z1y f (t.extract (k+1) t.size)=z29 s):=hacc;have HK:Hid (feed t=k):=hk;clear hacc hi hsm hk;obtain⟨fn,tmps,assign,body,hy,hR⟩:=hY pre ⟨t.extract 0 k,z3y htz _ _⟩ wr hJr hlen;dsimp only at hy;gi_wp2_with (gi_at_call 97;refine(callsIn_wide.2 (zGs _ _)).mono ?_;rintro e w1 ⟨rfl,rfl⟩;rw[HK.out])
   refine hR.mono ?_;rintro e W3 (⟨rfl,hJ3,hk3⟩|⟨rfl,hJx3⟩)
   ·have bS3:Boxed W3 Bs 9 (.string t):=(hk3.also Bs kS).trans bS'
    have bP3:Boxed W3 Bp 9 (.string ⟨#[10]⟩):=(hk3.also Bp kS).trans bP';have bV3:Boxed W3 Bv 3 (D E 0):=(hk3.also Bv kS).trans bV';have cS3:=bS3.cell;have fS3:=bS3.frozen;have cP3:=bP3.cell;have hz:zHi w1 Bs=t.size:=zAa bS';gi_wp2
    go_roundw
    case rel=>exact⟨pre++[⟨t.extract 0 k,z3y htz _ _⟩],t.extract (k+1) t.size,f,bS3.set _,Boxed.other_box bP3 h1 _,Boxed.other_box bV3 h2 _,by rw[List.map_append,List.append_assoc];exact HA.out,by rw[ByteArray.size_extract];omega,by rw[ByteArray.size_extract];omega,hJ _ _ _ _ hJ3 (z2o (z2g (bF _ _) _) 0 _) (Or.inr ⟨rfl,⟨_,bS3⟩,⟨_,bS3.set _⟩⟩)⟩
    case measure=>rw[hz,zAa (bS3.set _),ByteArray.size_extract];omega
   ·gi_wp2
    refine bodyPost_ret (results_none rfl _ _ _) rfl ?_;exact⟨⟨_,rfl⟩,.inr ⟨_,⟨z1y f (t.extract (k+1) t.size),by rw[List.map_append,List.append_assoc];exact HA.out⟩,hJx3⟩⟩
  ·have x1:decide (feed t<0)=true:=kZ
   rw[zKu hi]at hacc;have hlen:pre.length<(z29 s).length:=by rw[<-hacc];simp
   have HA:Hid (pre.map (·.1)++[t]=z29 s):=hacc;clear hacc hi hsm;obtain⟨fn,tmps,assign,body,hy,hR⟩:=hY pre ⟨t,htz⟩ wr hJr hlen;dsimp only at hy;gi_wp2_with (gi_at_call 97;refine(callsIn_wide.2 (zGs _ _)).mono ?_;rintro e w1 ⟨rfl,rfl⟩)
   refine hR.mono ?_;rintro e W3 (⟨rfl,hJ3,hk3⟩|⟨rfl,hJx3⟩)
   ·gi_wp2
    go_end0
    exact⟨⟨_,rfl⟩,.inl ⟨_,by rw[List.map_append];exact HA.out,hJ3⟩⟩
   ·gi_wp2
    go_end0
    exact⟨⟨_,rfl⟩,.inr ⟨_,⟨[],by rw[List.map_append,List.append_nil];exact HA.out⟩,hJx3⟩⟩
theorem zI2(s:ByteArray)(w:World):Calls tP 27 #[.string s,.string ⟨#[10]⟩] w fun e w'=>
  e= rT (.func (.func 95) #[] #[pT (some ⟨w.heap.size+1,0,none⟩),pT (some ⟨w.heap.size,0,none⟩),pT (some ⟨w.heap.size+2,0,none⟩)])/\w'=((w.alloc (cT #[.string s] 9)).alloc (cT #[.string ⟨#[10]⟩] 9)).alloc (cT #[D E 0] 3):=by
 go_enter Tryz.func27,Tryz.ntmps27;go_wp2;go_ret;exact⟨rfl,rfl⟩
end Go.Proofs.YtkdflpplamebkaaGreatDoor
namespace Go.Proofs
open Go.Shelf
def Tryz.lays229_ren:Go.Shelf.Ren:=⟨fun|229=>30|n=>n,fun|9=>9|40=>59|31=>57|152=>110|3=>3|0=>0|4=>4|21=>21|154=>112|n=>n,fun|n=>n⟩
theorem Tryz.lays229:Go.Proofs.Lays.n229 tP Tryz.lays229_ren:={
 mixed:=by kernel_rfl
 f229:=Tryz.func30.trans (congrArg some (by kernel_rfl))
 t0:=Tryz.underlying0
 a0:=Tryz.isAgg0
 z0:=Tryz.sizeOf0
 v0:=Tryz.zeroValue0
 t3:=Tryz.underlying3
 a3:=Tryz.isAgg3
 z3:=Tryz.sizeOf3
 v3:=Tryz.zeroValue3
 t4:=Tryz.underlying4
 a4:=Tryz.isAgg4
 z4:=Tryz.sizeOf4
 v4:=Tryz.zeroValue4
 t9:=Tryz.underlying9
 a9:=Tryz.isAgg9
 z9:=Tryz.sizeOf9
 v9:=Tryz.zeroValue9
 t21:=Tryz.underlying21
 a21:=Tryz.isAgg21
 z21:=Tryz.sizeOf21
 v21:=Tryz.zeroValue21
 t31:=Tryz.underlying57
 a31:=Tryz.isAgg57
 z31:=Tryz.sizeOf57
 v31:=Tryz.zeroValue57
 t40:=Tryz.underlying59
 a40:=Tryz.isAgg59
 z40:=Tryz.sizeOf59
 v40:=Tryz.zeroValue59
 t152:=Tryz.underlying110
 a152:=Tryz.isAgg110
 z152:=Tryz.sizeOf110
 v152:=Tryz.zeroValue110
 t154:=Tryz.underlying112
 a154:=Tryz.isAgg112
 z154:=Tryz.sizeOf112
 v154:=Tryz.zeroValue112}
open Go.RowKit Go.Lib in
theorem Tryz.strings_FieldsFunc_runes(g:Nat)(lb:Array Value)(eg: ∀args w,(callFunc g args).run tP w= .ok (.enter g args) w)(p:Nat->Bool)(s:ByteArray)(w:World)(hs:s.size<=4294967296)(hp:PredAtRunes tP g lb p w):
  Calls tP 30 #[.string s,.func (.func g) #[] lb] w fun e w'=> ∃A,e= rT (.slice (some ⟨A,0,none⟩) (Lib.goFieldsP p s).length (Lib.goFieldsP p s).length)/\w.heap.size<=A/\
   w'.ownsRow w.heap.size 9 1 (.slice (some ⟨A,0,none⟩) (Lib.goFieldsP p s).length (Lib.goFieldsP p s).length) (Lib.goFieldsP p s).length ((Lib.goFieldsP p s).map Value.string)/\Below w.heap.size w w':=Any.strings_FieldsFunc_runes Tryz.lays229 g lb eg p s w hs hp (by kernel_rfl) (by kernel_rfl)
end Go.Proofs
