/-
A part of the proof of DeskPieces; its card says what is proved.
-/
import Derived.Test.YtkdflpplamebkaaGreatDoorJp13
import Derived.Test.YtkdflpplamebkaaGreatDoorJp7
set_option maxHeartbeats 40000000
open Go.Value renaming int → A
open Go.IntKind renaming i64 → F
open Go.RowKit.Below renaming alloc → bA, setCell → bS, drew → bD, refl → bF
set_option maxRecDepth 1000000
set_option linter.defProp false
set_option linter.unusedVariables false
set_option linter.unusedSimpArgs false
open Go.Ending renaming returned → rT
open Go.Value renaming pointer → pT
open Go.Obj renaming cells → cT
open Go.Proofs.Tryz renaming prog → tP
namespace Go.Proofs.YtkdflpplamebkaaGreatDoor
open Go.ChangeShapes Go.WideShapes Go.ChangeAt Go.RowKit
section
attribute [local simp] z05 z0a z06
def z0e:Array Value:=#[A F 0,A F 0,A F 0,A F 0,A F 0,A F 0,A F 0,A F 0,A F 0,A F 0,A F 0,A F 0,A F 0,A F 0,A F 0,A F 0,A F 0,.slice none 0 0,A F 0]
def z5l:Value:= .agg z0e
theorem Tryz.infoK:(Tryz.prog.info? 77).map (·.size)=some 16:=kR
theorem Tryz.infoRan:(Tryz.prog.info? 104).map (·.size)=some 19:=kR
theorem zVm(W:World)(g:Nat)(cs:Array Value)(h:W.heap[g]?=some (cT z0e 104 (0,0)))(hs:cs.size=19)(h1:cs.all (·.oneCell')=true):(Instr.storeAt 104 (pT (some ⟨g,0,none⟩)) (.agg cs)).run tP W= .ok () (W.setRow g cs):=by
 simp only[Instr.storeAt,Instr.sureAddr,Sem.run_bind,Sem.run_pure,Result.andThen_ok,run_storeVar_row W g 104 104 z0e cs h (by rw[Tryz.infoRan,hs]) (by rw[hs];rfl) h1]
theorem z4a{o:Oper}{a:Act}(W:World)(x y:Operand)(g:Nat)(cs:Array Value)(ho:o.op= .store 104 x y)(hx:a.eval x= pT (some ⟨g,0,none⟩))(hy:a.eval y= .agg cs)(h:W.heap[g]?=some (cT z0e 104 (0,0)))(hs:cs.size=19)(h1:cs.all (·.oneCell')=true):(execOp a.eval o).run tP W= .ok .skip (W.setRow g cs):=by
 unfold execOp;simp only[ho,hx,hy,Sem.run_bind,Sem.run_pure,Result.andThen_ok,zVm W g cs h hs h1]
theorem q1v{o:Oper}{x:Operand}{u:Act}(W:World)(B:Nat)(m:Mac)(a:Abs){L:List Int}(hM:z0b W B m)(ha:m.abs L=a)(cs:Array Value)(hcs:cs=#[A F (a.cel 0),A F (a.cel 1),A F (a.cel 2),A F (a.cel 3),A F (a.cel 4),A F (a.cel 5),A F (a.cel 6),A F (a.cel 7),A F (a.cel 8),A F (a.cel 9),A F (a.cel 10),A F (a.cel 11),A F (a.cel 12),A F (a.cel 13),A F (a.cel 14),A F (a.cel 15)])(ho:o.op= .load 77 x)(hx:u.eval x= pT (some ⟨B,91,none⟩)):(execOp u.eval o).run tP W= .ok (.value (.agg cs)) W:=by
 have hr:W.rangeAt B 91 cs.toList:=by
  intro j v hv;have hj:j<16:=by have:=(List.getElem?_eq_some_iff.1 hv).1;rw[hcs]at this;simpa using this
  rw[hM.cel hj];rw[show m.cel=a.cel by rw[<-ha];rfl];rw[hcs]at hv
  have hk: ∀i,i<16->(#[Value.int .i64 (a.cel 0),Value.int .i64 (a.cel 1),Value.int .i64 (a.cel 2),Value.int .i64 (a.cel 3),Value.int .i64 (a.cel 4),Value.int .i64 (a.cel 5),Value.int .i64 (a.cel 6),Value.int .i64 (a.cel 7),Value.int .i64 (a.cel 8),Value.int .i64 (a.cel 9),Value.int .i64 (a.cel 10),Value.int .i64 (a.cel 11),Value.int .i64 (a.cel 12),Value.int .i64 (a.cel 13),Value.int .i64 (a.cel 14),Value.int .i64 (a.cel 15)]:Array Value).toList[i]?=some (A F (a.cel i)):=by
   intro i hi;rcases(show i=0\/i=1\/i=2\/i=3\/i=4\/i=5\/i=6\/i=7\/i=8\/i=9\/i=10\/i=11\/i=12\/i=13\/i=14\/i=15 by omega)with rfl|rfl|rfl|rfl|rfl|rfl|rfl|rfl|rfl|rfl|rfl|rfl|rfl|rfl|rfl|rfl<;>rfl
  rw[hk j hj]at hv;exact hv
 have hl:=run_loadVar_mid (P:=tP) W B 91 77 cs.toList _ hr Tryz.underlying77 rfl (by rw[Tryz.infoK,hcs];rfl);unfold execOp;simp only[ho,hx,Instr.loadAt,Instr.sureAddr,Sem.run_bind,Sem.run_pure,Result.andThen_ok,hl]
theorem zJj(o:Nat):z0e[o]?=[A F 0,A F 0,A F 0,A F 0,A F 0,A F 0,A F 0,A F 0,A F 0,A F 0,A F 0,A F 0,A F 0,A F 0,A F 0,A F 0,A F 0,.slice none 0 0,A F 0][o]?:=by simp[z0e]
theorem zFu:z0e.all (·.oneCell')=true:=kR
theorem z25{B:Nat}{a w:World}(h:Below B a w){g:Nat}(hg:B<=g)(cs:Array Value):Below B a (w.setRow g cs):=
 h.trans ⟨rfl,rfl,rfl,by simp,fun k hk=>setRow_other w g k cs kO⟩
theorem zCx(w:World)(X Y Z:Obj):(((w.alloc X).alloc Y).alloc Z).heap[w.heap.size+1+1]?=some Z:=by
 have:=heap_alloc_new ((w.alloc X).alloc Y) Z;simp only[World.size_alloc]at this;exact this
theorem z93(tmps:Array Value)(w':World)(g:Nat)(cs:Array Value)(x:Value)(h8:tmps.getD 8 undef= pT (some ⟨g,0,none⟩))(h9:tmps.getD 9 undef=x)(hg:w'.heap[g]?=some (cT cs 104 (0,0)))(hs:cs.size=19):
  (results Tryz.f57 tmps).run tP w'= .ok (.tuple #[.agg cs,x]) w':=by
 have h8':tmps[8]?.getD undef= pT (some ⟨g,0,none⟩):=by simpa using h8
 have h9':tmps[9]?.getD undef=x:=by simpa using h9
 have hl:=run_loadVar_row (P:=tP) w' g 104 104 cs (0,0) _ hg Tryz.underlying104 rfl (by rw[Tryz.infoRan,hs]);simp[results,Tryz.results57,asAddr,h8',h9',hl]
theorem Tryz.infoT:(Tryz.prog.info? 92).map (·.size)=some 8:=kR
def RS(B g:Nat)(m:Mac)(W:World):Prop:=z0b W B m/\W.heap[g]?=some (cT z0e 104 (0,0))
theorem RS.row{B g:Nat}{m:Mac}{W:World}(h:RS B g m W)(hne:g≠B):RS B g m (W.setRow g z0e):=⟨(setRow_other W g B z0e (fun e=>hne e.symm)).trans h.1,setRow_heap W g z0e z0e _ _ h.2⟩
def RS2(B g:Nat)(m:Mac)(W:World):Prop:=z0b W B m/\ ∃cs:Array Value,cs.size=19/\W.heap[g]?=some (cT cs 104 (0,0))
theorem q56{w3:World}{b b' g:Nat}{e:TypeId}{z:Nat}{v:Value}{n:Nat}{xs:List Value}(h:w3.ownsRow b e z v n xs)(hg:g<b)(hb:b'<=b)(cs:Array Value):(w3.drew.setRow g cs).ownsRow b' e z v n xs:=by
 obtain⟨h1,h2⟩:=h;refine⟨h1,?_⟩;rcases h2 with h2|⟨k,cap,cur,hv,hk,hh,r⟩
 ·exact Or.inl h2
 exact Or.inr ⟨k,cap,cur,hv,by omega,(setRow_other w3.drew g k cs kO).trans hh,r⟩
theorem zEj(w:World)(X Y Z:Obj):(((w.alloc X).alloc Y).alloc Z).heap[w.heap.size]?=some X:=by
 have e1:=Below.heap_alloc ((w.alloc X).alloc Y) Z w.heap.size kZ;have e2:=Below.heap_alloc (w.alloc X) Y w.heap.size kS;rw[e1,e2];exact heap_alloc_new w X
theorem zAt(w:World)(X Y Z:Obj):(((w.alloc X).alloc Y).alloc Z).heap[w.heap.size+1]?=some Y:=by
 have e1:=Below.heap_alloc ((w.alloc X).alloc Y) Z (w.heap.size+1) kS;have e2:=heap_alloc_new (w.alloc X) Y;simp only[World.size_alloc]at e2;rw[e1,e2]
theorem zCb{T K:Nat->Int}{time:Int}(hT: ∀i,i<8->In64 (T i))(hK: ∀i,i<16->In64 (K i))(ht:In64 time):((z6y T K time).abs []).Ok:=by
 refine⟨fun i _=>?_,fun i _=>z9s,hT,hK,ht,fun x hx=>absurd hx (by simp[Mac.abs]),Nat.zero_le _⟩;show(if i=10 then(⟨3,0,0⟩:Val)else if i=1 then⟨2,0,0⟩else z7t).Ok;split
 ·exact⟨by decide,by decide,⟨by decide,by decide⟩,by decide,by decide⟩
 split
 ·exact⟨by decide,by decide,⟨by decide,by decide⟩,by decide,by decide⟩
 exact z9s
theorem zW7(bk off len cap:Nat)(C D S O N:Nat->Int)(R:Nat->Bool)(T K:Nat->Int)(time:Int)(w:World)(h1:1<=len)(h2:len<=200)(hbk:bk<w.heap.size)(hst:z1v w bk off len C D S R O N)(h: ∀j,j<len->z32 len C D S R O N j=0)(hN: ∀k,k<len->In64 (N k))(hT: ∀i,i<8->In64 (T i))(hK: ∀i,i<16->In64 (K i))(ht:In64 time)(er:Int)(q:Nat)(HR:Hid (runF C D S R O N len 0 0 ((z6y T K time).abs [])= .bad er q)):
  Calls tP 57 #[.slice (some ⟨bk,off,none⟩) len cap,.agg #[A F (T 0),A F (T 1),A F (T 2),A F (T 3),A F (T 4),A F (T 5),A F (T 6),A F (T 7)],.agg #[A F (K 0),A F (K 1),A F (K 2),A F (K 3),A F (K 4),A F (K 5),A F (K 6),A F (K 7),A F (K 8),A F (K 9),A F (K 10),A F (K 11),A F (K 12),A F (K 13),A F (K 14),A F (K 15)],A F time] w fun e w'=> ∃p,e= rT (.tuple #[z5l,.iface 166 (pT (some ⟨p,0,none⟩))])/\Below w.heap.size w w'/\p<w'.heap.size/\w'.cell? ⟨p,0,none⟩=some (A F er)/\w'.cell? ⟨p,1,none⟩=some (A F q)/\er≠0:=by
 have HC:Hid (∀W:World,Below w.heap.size w W->zR 74 #[.slice (some ⟨bk,off,none⟩) len cap] W .nilIface):=fun W hW=>z5z h (hst.later hW hbk) h1 h2 (Nat.lt_of_lt_of_le hbk hW.size);have HG:Hid (∀(B:Nat)(W:World),w.heap.size<B->Below w.heap.size w W->z0b W B (z6y T K time)->Calls tP 94 #[pT (some ⟨B,0,none⟩),.slice (some ⟨bk,off,none⟩) len cap] W fun e w'=> ∃E,e= rT (A F E)/\Gone B W w' (runF C D S R O N len 0 0 ((z6y T K time).abs [])) E):=fun B W hB hW hM=>zQp B bk off len cap C D S O N R (z6y T K time) [] W hM (World.ownsRow_nil W (B+1) _ 1) (zCb hT hK ht) (hst.later hW hbk) kO h2 h1 h hN rfl rfl;have HB:Hid (Below w.heap.size w (((w.alloc (cT #[A F (T 0),A F (T 1),A F (T 2),A F (T 3),A F (T 4),A F (T 5),A F (T 6),A F (T 7)] 92)).alloc (cT #[A F (K 0),A F (K 1),A F (K 2),A F (K 3),A F (K 4),A F (K 5),A F (K 6),A F (K 7),A F (K 8),A F (K 9),A F (K 10),A F (K 11),A F (K 12),A F (K 13),A F (K 14),A F (K 15)] 77)).alloc (cT z0e 104))):=((((bF _ _).alloc (Nat.le_refl _) _).alloc kS _).alloc kZ _);have HT:Hid ((((w.alloc (cT #[A F (T 0),A F (T 1),A F (T 2),A F (T 3),A F (T 4),A F (T 5),A F (T 6),A F (T 7)] 92)).alloc (cT #[A F (K 0),A F (K 1),A F (K 2),A F (K 3),A F (K 4),A F (K 5),A F (K 6),A F (K 7),A F (K 8),A F (K 9),A F (K 10),A F (K 11),A F (K 12),A F (K 13),A F (K 14),A F (K 15)] 77)).alloc (cT z0e 104)).heap[w.heap.size+1+1]?=some (cT z0e 104 (0,0))):=zCx _ _ _ _;have HX:Hid ((((w.alloc (cT #[A F (T 0),A F (T 1),A F (T 2),A F (T 3),A F (T 4),A F (T 5),A F (T 6),A F (T 7)] 92)).alloc (cT #[A F (K 0),A F (K 1),A F (K 2),A F (K 3),A F (K 4),A F (K 5),A F (K 6),A F (K 7),A F (K 8),A F (K 9),A F (K 10),A F (K 11),A F (K 12),A F (K 13),A F (K 14),A F (K 15)] 77)).alloc (cT z0e 104)).heap[w.heap.size]?=some (cT #[A F (T 0),A F (T 1),A F (T 2),A F (T 3),A F (T 4),A F (T 5),A F (T 6),A F (T 7)] 92 (0,0))):=zEj _ _ _ _;have HY:Hid ((((w.alloc (cT #[A F (T 0),A F (T 1),A F (T 2),A F (T 3),A F (T 4),A F (T 5),A F (T 6),A F (T 7)] 92)).alloc (cT #[A F (K 0),A F (K 1),A F (K 2),A F (K 3),A F (K 4),A F (K 5),A F (K 6),A F (K 7),A F (K 8),A F (K 9),A F (K 10),A F (K 11),A F (K 12),A F (K 13),A F (K 14),A F (K 15)] 77)).alloc (cT z0e 104)).heap[w.heap.size+1]?=some (cT #[A F (K 0),A F (K 1),A F (K 2),A F (K 3),A F (K 4),A F (K 5),A F (K 6),A F (K 7),A F (K 8),A F (K 9),A F (K 10),A F (K 11),A F (K 12),A F (K 13),A F (K 14),A F (K 15)] 77 (0,0))):=zAt _ _ _ _;clear hst h hbk hT hK ht hN h1 h2;go_enter Tryz.func57,Tryz.ntmps57
 go_wp2_with(first
  |(go_at_call 74;refine(HC.out _ HB.out).mono ?_;rintro e w1 ⟨rfl,hb1⟩;have HZ1:Hid (w1.heap[w.heap.size+1+1]?=some (cT z0e 104 (0,0))):=(hb1.block (w.heap.size+1+1) kS).trans HT.out;have HX1:Hid (w1.heap[w.heap.size]?=some (cT #[A F (T 0),A F (T 1),A F (T 2),A F (T 3),A F (T 4),A F (T 5),A F (T 6),A F (T 7)] 92 (0,0))):=(hb1.block w.heap.size kZ).trans HX.out;have HY1:Hid (w1.heap[w.heap.size+1]?=some (cT #[A F (K 0),A F (K 1),A F (K 2),A F (K 3),A F (K 4),A F (K 5),A F (K 6),A F (K 7),A F (K 8),A F (K 9),A F (K 10),A F (K 11),A F (K 12),A F (K 13),A F (K 14),A F (K 15)] 77 (0,0))):=(hb1.block (w.heap.size+1) kS).trans HY.out;have HBW:Hid (Below w.heap.size w w1):=HB.out.trans (hb1.mono HB.out.size);have HS1:Hid (w.heap.size+1+1<w1.heap.size):=(by have:=hb1.size;simp at this;show w.heap.size+1+1<w1.heap.size;omega);clear hb1)
  |(refine wpList_load_row rfl 92 (.tmp 5) rfl w.heap.size rfl 92 #[A F (T 0),A F (T 1),A F (T 2),A F (T 3),A F (T 4),A F (T 5),A F (T 6),A F (T 7)] (0,0) _ HX1.out Tryz.underlying92 rfl Tryz.infoT ?_)
  |(refine wpList_load_row rfl 77 (.tmp 6) rfl (w.heap.size+1) rfl 77 #[A F (K 0),A F (K 1),A F (K 2),A F (K 3),A F (K 4),A F (K 5),A F (K 6),A F (K 7),A F (K 8),A F (K 9),A F (K 10),A F (K 11),A F (K 12),A F (K 13),A F (K 14),A F (K 15)] (0,0) _ HY1.out Tryz.underlying77 rfl Tryz.infoK ?_)
  |(go_at_call 93;refine(zMj T K time _).mono ?_;rintro e w2 ⟨rfl,hb2,hM2⟩;obtain⟨B,hBe⟩: ∃B,w1.heap.size+1+1=B:=⟨_,rfl⟩;rw[hBe]at hM2⊢;have HBe:Hid (w.heap.size+1+1<B):=(by have:=HS1.out;show w.heap.size+1+1<B;omega);have HM2:Hid (z0b w2 B (z6y T K time)):=hM2;have HB2:Hid (Below w1.heap.size w1 w2):=hb2;clear hBe hM2 hb2)
  |(go_at_call 94;refine(HG.out B _ (by have:=HBe.out;omega) (HBW.out.trans (HB2.out.mono HBW.out.size)) HM2.out).mono ?_;rintro e w3 ⟨E,rfl,hg⟩;rw[HR.out]at hg;obtain⟨hb3,m3,L3,hM3,hO3,hE,hE0,hst3⟩:=hg;subst hE;have HE0:Hid (E≠0):=hE0;have he1:(E !=0)=true:=(by simpa using hE0);have HQ:Hid (m3.step=(q:Int)):=hst3;clear hE0 hst3 hO3;have HZ3:Hid (w3.heap[w.heap.size+1+1]?=some (cT z0e 104 (0,0))):=(hb3.block _ HBe.out).trans ((HB2.out.block _ HS1.out).trans HZ1.out);have HBW3:Hid (Below w.heap.size w w3):=(HBW.out.trans (HB2.out.mono HBW.out.size)).trans (hb3.mono (by have:=HBe.out;omega));have hz3: ∀o,w3.cell? ⟨w.heap.size+1+1,o,none⟩=[A F 0,A F 0,A F 0,A F 0,A F 0,A F 0,A F 0,A F 0,A F 0,A F 0,A F 0,A F 0,A F 0,A F 0,A F 0,A F 0,A F 0,.slice none 0 0,A F 0][o]?:=(fun o=>(cell_of_row w3 _ o z0e _ _ HZ3.out).trans (zJj o));have fz3: ∀o,w3.frozen? ⟨w.heap.size+1+1,o,none⟩=false:=(fun o=>by simp[World.frozen?,HZ3.out]);have hB3:=hM3.lt;have hS3:w.heap.size+1+1<w3.heap.size:=(by have:=HBe.out;omega);have hne:w.heap.size+1+1≠B:=(by have:=HBe.out;omega))
  |fail)
 clear HC HG HB HT HX HY HX1 HY1 HZ1 HB2 HM2 HBW hz3 fz3;refine wp_region_held_drew (S:=RS B (w.heap.size+1+1) m3) kR ⟨hM3,HZ3.out⟩ fun hS=>?_;change wpAnyH _ _ _ _ _ 11 (Array.replicate 11 false) _ _
 refine tkH (i:=0) (some 28) (.agg #[A F 0,A F 0,A F 0,A F 0,A F 0,A F 0,A F 0,A F 0,A F 0,A F 0,A F 0,A F 0,A F 0,A F 0,A F 0,A F 0,A F 0,.slice none 0 0,A F 0]) rfl rfl (fun W hW=>?_) hS ?_
 ·go_simp
 simp only[pS];refine tkH (i:=1) (some 29) (A F E) rfl rfl (fun W hW=>?_) hS ?_
 ·go_simp
 simp only[pS];refine tkH (i:=2) (some 30) (pT (some ⟨B,0,none⟩)) rfl rfl (fun W hW=>?_) hS ?_
 ·go_simp
 simp only[pS];refine tkH (i:=3) (some 31) (pT (some ⟨B,0,none⟩)) rfl rfl (fun W hW=>?_) hS ?_
 ·go_simp
 simp only[pS];refine tkH (i:=4) (some 32) (pT (some ⟨B,0,none⟩)) rfl rfl (fun W hW=>?_) hS ?_
 ·go_simp
 simp only[pS];refine tkH (i:=5) (some 33) (A F (q:Int)) rfl rfl (fun W hW=>?_) hS ?_
 ·have y0:W.cell? ⟨B,0,none⟩=some (A F (q:Int)):=(by rw[hW.1.step];exact congrArg _ (congrArg _ HQ.out))
  go_simp
 simp only[pS];refine tkH (i:=6) (some 34) (.agg #[A F E,A F (q:Int)]) rfl rfl (fun W hW=>?_) hS ?_
 ·go_simp
 simp only[pS];refine wpAnyH_ready (rs:=[7,9]) kR kS ?_;have hA:RS B (w.heap.size+1+1) m3 (w3.drew.alloc (cT #[A F E,A F (q:Int)] 174)):=⟨hM3.drew.alloc _,(Below.heap_alloc w3.drew _ _ hS3).trans HZ3.out⟩;have hA2:RS B (w.heap.size+1+1) m3 ((w3.drew.alloc (cT #[A F E,A F (q:Int)] 174)).setRow (w.heap.size+1+1) z0e):=RS.row hA hne;have hA3:RS B (w.heap.size+1+1) m3 (w3.drew.setRow (w.heap.size+1+1) z0e):=RS.row hS hne;have hA4:RS B (w.heap.size+1+1) m3 ((w3.drew.setRow (w.heap.size+1+1) z0e).alloc (cT #[A F E,A F (q:Int)] 174)):=⟨hA3.1.alloc _,(Below.heap_alloc _ _ _ (by simpa using hS3)).trans hA3.2⟩;refine z4p (some 35) (pT (some ⟨w3.heap.size,0,none⟩)) (w3.drew.alloc (cT #[A F E,A F (q:Int)] 174)) rfl rfl kI ?_ hA ?_ (z5n (w3.drew.setRow (w.heap.size+1+1) z0e) rfl rfl kI ?_ hA3 ?_ AllReadyH.nil)
 ·go_simp
 ·simp only[pS]
  refine tkH (i:=8) (some 36) (.iface 166 (pT (some ⟨w3.heap.size,0,none⟩))) rfl rfl (fun W hW=>?_) hA ?_
  ·go_simp
  simp only[pS];refine wpAnyH_ready (rs:=[9]) kR kS ?_;refine z5n ((w3.drew.alloc (cT #[A F E,A F (q:Int)] 174)).setRow (w.heap.size+1+1) z0e) rfl rfl kI ?_ hA2 ?_ AllReadyH.nil
  ·exact z4a _ _ _ _ _ rfl rfl rfl hA.2 rfl zFu
  simp only[Act.put];refine tkH (i:=10) (some 9) (.iface 166 (pT (some ⟨w3.heap.size,0,none⟩))) rfl rfl (fun W hW=>?_) hA2 ?_
  ·go_simp
  simp only[pS];refine wpAnyH_done kR ?_ _;go_wp2;exact bodyPost_ret (v:= .tuple #[z5l,.iface 166 (pT (some ⟨w3.heap.size,0,none⟩))]) (z93 _ _ (w.heap.size+1+1) z0e _ rfl rfl hA2.2 rfl) rfl ⟨w3.heap.size,rfl,z25 ((HBW3.out.drew).alloc (by have:=HBW3.out.size;simpa using this) _) kO _,by simp,by rw[cell_setRow_other _ _ _ _ (by show w3.heap.size≠_;omega),World.cell?_alloc_at _ _ _ _ kS];rfl,by rw[cell_setRow_other _ _ _ _ (by show w3.heap.size≠_;omega),World.cell?_alloc_at _ _ _ _ kS];rfl,HE0.out⟩
 ·exact z4a _ _ _ _ _ rfl rfl rfl hS.2 rfl zFu
 simp only[Act.put];refine wpAnyH_ready (rs:=[7]) kR kS ?_;refine z4p (some 35) (pT (some ⟨w3.heap.size,0,none⟩)) ((w3.drew.setRow (w.heap.size+1+1) z0e).alloc (cT #[A F E,A F (q:Int)] 174)) rfl rfl kI ?_ hA4 ?_ AllReadyH.nil
 ·go_simp
 simp only[pS];refine tkH (i:=8) (some 36) (.iface 166 (pT (some ⟨w3.heap.size,0,none⟩))) rfl rfl (fun W hW=>?_) hA4 ?_
 ·go_simp
 simp only[pS];refine tkH (i:=10) (some 9) (.iface 166 (pT (some ⟨w3.heap.size,0,none⟩))) rfl rfl (fun W hW=>?_) hA4 ?_
 ·go_simp
 simp only[pS];refine wpAnyH_done kR ?_ _;go_wp2;exact bodyPost_ret (v:= .tuple #[z5l,.iface 166 (pT (some ⟨w3.heap.size,0,none⟩))]) (z93 _ _ (w.heap.size+1+1) z0e _ rfl rfl hA4.2 rfl) rfl ⟨w3.heap.size,rfl,(z25 HBW3.out.drew kO _).alloc (by have:=HBW3.out.size;simpa using this) _,by simp,by rw[World.cell?_alloc_at _ _ _ _ kS];rfl,by rw[World.cell?_alloc_at _ _ _ _ kS];rfl,HE0.out⟩
theorem zPy(bk off len cap:Nat)(C D S O N:Nat->Int)(R:Nat->Bool)(T K:Nat->Int)(time:Int)(w:World)(h1:1<=len)(h2:len<=200)(hbk:bk<w.heap.size)(hst:z1v w bk off len C D S R O N)(h: ∀j,j<len->z32 len C D S R O N j=0)(hN: ∀k,k<len->In64 (N k))(hT: ∀i,i<8->In64 (T i))(hK: ∀i,i<16->In64 (K i))(ht:In64 time)(n0:Int)(k:Nat)(a:Abs)(HR:Hid (runF C D S R O N len 0 0 ((z6y T K time).abs [])= .fine n0 k a)):
  Calls tP 57 #[.slice (some ⟨bk,off,none⟩) len cap,.agg #[A F (T 0),A F (T 1),A F (T 2),A F (T 3),A F (T 4),A F (T 5),A F (T 6),A F (T 7)],.agg #[A F (K 0),A F (K 1),A F (K 2),A F (K 3),A F (K 4),A F (K 5),A F (K 6),A F (K 7),A F (K 8),A F (K 9),A F (K 10),A F (K 11),A F (K 12),A F (K 13),A F (K 14),A F (K 15)],A F time] w fun e w'=> ∃v3,e= rT (.tuple #[.agg #[A F n0,A F (a.cel 0),A F (a.cel 1),A F (a.cel 2),A F (a.cel 3),A F (a.cel 4),A F (a.cel 5),A F (a.cel 6),A F (a.cel 7),A F (a.cel 8),A F (a.cel 9),A F (a.cel 10),A F (a.cel 11),A F (a.cel 12),A F (a.cel 13),A F (a.cel 14),A F (a.cel 15),v3,A F (k:Int)],.nilIface])/\Below w.heap.size w w'/\w'.ownsRow (w.heap.size+1) 2 1 v3 a.out.length (a.out.map (Value.int .i64)):=by
 have HC:Hid (∀W:World,Below w.heap.size w W->zR 74 #[.slice (some ⟨bk,off,none⟩) len cap] W .nilIface):=fun W hW=>z5z h (hst.later hW hbk) h1 h2 (Nat.lt_of_lt_of_le hbk hW.size);have HG:Hid (∀(B:Nat)(W:World),w.heap.size<B->Below w.heap.size w W->z0b W B (z6y T K time)->Calls tP 94 #[pT (some ⟨B,0,none⟩),.slice (some ⟨bk,off,none⟩) len cap] W fun e w'=> ∃E,e= rT (A F E)/\Gone B W w' (runF C D S R O N len 0 0 ((z6y T K time).abs [])) E):=fun B W hB hW hM=>zQp B bk off len cap C D S O N R (z6y T K time) [] W hM (World.ownsRow_nil W (B+1) _ 1) (zCb hT hK ht) (hst.later hW hbk) kO h2 h1 h hN rfl rfl;have HB:Hid (Below w.heap.size w (((w.alloc (cT #[A F (T 0),A F (T 1),A F (T 2),A F (T 3),A F (T 4),A F (T 5),A F (T 6),A F (T 7)] 92)).alloc (cT #[A F (K 0),A F (K 1),A F (K 2),A F (K 3),A F (K 4),A F (K 5),A F (K 6),A F (K 7),A F (K 8),A F (K 9),A F (K 10),A F (K 11),A F (K 12),A F (K 13),A F (K 14),A F (K 15)] 77)).alloc (cT z0e 104))):=((((bF _ _).alloc (Nat.le_refl _) _).alloc kS _).alloc kZ _);have HT:Hid ((((w.alloc (cT #[A F (T 0),A F (T 1),A F (T 2),A F (T 3),A F (T 4),A F (T 5),A F (T 6),A F (T 7)] 92)).alloc (cT #[A F (K 0),A F (K 1),A F (K 2),A F (K 3),A F (K 4),A F (K 5),A F (K 6),A F (K 7),A F (K 8),A F (K 9),A F (K 10),A F (K 11),A F (K 12),A F (K 13),A F (K 14),A F (K 15)] 77)).alloc (cT z0e 104)).heap[w.heap.size+1+1]?=some (cT z0e 104 (0,0))):=zCx _ _ _ _;have HX:Hid ((((w.alloc (cT #[A F (T 0),A F (T 1),A F (T 2),A F (T 3),A F (T 4),A F (T 5),A F (T 6),A F (T 7)] 92)).alloc (cT #[A F (K 0),A F (K 1),A F (K 2),A F (K 3),A F (K 4),A F (K 5),A F (K 6),A F (K 7),A F (K 8),A F (K 9),A F (K 10),A F (K 11),A F (K 12),A F (K 13),A F (K 14),A F (K 15)] 77)).alloc (cT z0e 104)).heap[w.heap.size]?=some (cT #[A F (T 0),A F (T 1),A F (T 2),A F (T 3),A F (T 4),A F (T 5),A F (T 6),A F (T 7)] 92 (0,0))):=zEj _ _ _ _;have HY:Hid ((((w.alloc (cT #[A F (T 0),A F (T 1),A F (T 2),A F (T 3),A F (T 4),A F (T 5),A F (T 6),A F (T 7)] 92)).alloc (cT #[A F (K 0),A F (K 1),A F (K 2),A F (K 3),A F (K 4),A F (K 5),A F (K 6),A F (K 7),A F (K 8),A F (K 9),A F (K 10),A F (K 11),A F (K 12),A F (K 13),A F (K 14),A F (K 15)] 77)).alloc (cT z0e 104)).heap[w.heap.size+1]?=some (cT #[A F (K 0),A F (K 1),A F (K 2),A F (K 3),A F (K 4),A F (K 5),A F (K 6),A F (K 7),A F (K 8),A F (K 9),A F (K 10),A F (K 11),A F (K 12),A F (K 13),A F (K 14),A F (K 15)] 77 (0,0))):=zAt _ _ _ _;clear hst h hbk hT hK ht hN h1 h2;go_enter Tryz.func57,Tryz.ntmps57
 go_wp2_with(first
  |(go_at_call 74;refine(HC.out _ HB.out).mono ?_;rintro e w1 ⟨rfl,hb1⟩;have HZ1:Hid (w1.heap[w.heap.size+1+1]?=some (cT z0e 104 (0,0))):=(hb1.block (w.heap.size+1+1) kS).trans HT.out;have HX1:Hid (w1.heap[w.heap.size]?=some (cT #[A F (T 0),A F (T 1),A F (T 2),A F (T 3),A F (T 4),A F (T 5),A F (T 6),A F (T 7)] 92 (0,0))):=(hb1.block w.heap.size kZ).trans HX.out;have HY1:Hid (w1.heap[w.heap.size+1]?=some (cT #[A F (K 0),A F (K 1),A F (K 2),A F (K 3),A F (K 4),A F (K 5),A F (K 6),A F (K 7),A F (K 8),A F (K 9),A F (K 10),A F (K 11),A F (K 12),A F (K 13),A F (K 14),A F (K 15)] 77 (0,0))):=(hb1.block (w.heap.size+1) kS).trans HY.out;have HBW:Hid (Below w.heap.size w w1):=HB.out.trans (hb1.mono HB.out.size);have HS1:Hid (w.heap.size+1+1<w1.heap.size):=(by have:=hb1.size;simp at this;show w.heap.size+1+1<w1.heap.size;omega);clear hb1)
  |(refine wpList_load_row rfl 92 (.tmp 5) rfl w.heap.size rfl 92 #[A F (T 0),A F (T 1),A F (T 2),A F (T 3),A F (T 4),A F (T 5),A F (T 6),A F (T 7)] (0,0) _ HX1.out Tryz.underlying92 rfl Tryz.infoT ?_)
  |(refine wpList_load_row rfl 77 (.tmp 6) rfl (w.heap.size+1) rfl 77 #[A F (K 0),A F (K 1),A F (K 2),A F (K 3),A F (K 4),A F (K 5),A F (K 6),A F (K 7),A F (K 8),A F (K 9),A F (K 10),A F (K 11),A F (K 12),A F (K 13),A F (K 14),A F (K 15)] (0,0) _ HY1.out Tryz.underlying77 rfl Tryz.infoK ?_)
  |(go_at_call 93;refine(zMj T K time _).mono ?_;rintro e w2 ⟨rfl,hb2,hM2⟩;obtain⟨B,hBe⟩: ∃B,w1.heap.size+1+1=B:=⟨_,rfl⟩;rw[hBe]at hM2⊢;have HBe:Hid (w.heap.size+1+1<B):=(by have:=HS1.out;show w.heap.size+1+1<B;omega);have HM2:Hid (z0b w2 B (z6y T K time)):=hM2;have HB2:Hid (Below w1.heap.size w1 w2):=hb2;clear hBe hM2 hb2)
  |(go_at_call 94;refine(HG.out B _ (by have:=HBe.out;omega) (HBW.out.trans (HB2.out.mono HBW.out.size)) HM2.out).mono ?_;rintro e w3 ⟨E,rfl,hg⟩;rw[HR.out]at hg;obtain⟨hb3,m3,L3,hM3,hO3,hE,hst3,ha3,hn3⟩:=hg;subst hE;have HA:Hid (m3.abs L3=a):=ha3;have HK0:Hid (m3.steps=(k:Int)):=hst3;have HN3:Hid (n0=(a.reg 0).n):=hn3;have HO3:Hid (z1t w3 B m3.out L3):=hO3;clear hst3 hO3 ha3 hn3;have HZ3:Hid (w3.heap[w.heap.size+1+1]?=some (cT z0e 104 (0,0))):=(hb3.block _ HBe.out).trans ((HB2.out.block _ HS1.out).trans HZ1.out);have HBW3:Hid (Below w.heap.size w w3):=(HBW.out.trans (HB2.out.mono HBW.out.size)).trans (hb3.mono (by have:=HBe.out;omega));have hz3: ∀o,w3.cell? ⟨w.heap.size+1+1,o,none⟩=[A F 0,A F 0,A F 0,A F 0,A F 0,A F 0,A F 0,A F 0,A F 0,A F 0,A F 0,A F 0,A F 0,A F 0,A F 0,A F 0,A F 0,.slice none 0 0,A F 0][o]?:=(fun o=>(cell_of_row w3 _ o z0e _ _ HZ3.out).trans (zJj o));have fz3: ∀o,w3.frozen? ⟨w.heap.size+1+1,o,none⟩=false:=(fun o=>by simp[World.frozen?,HZ3.out]);have hB3:=hM3.lt;have hS3:w.heap.size+1+1<w3.heap.size:=(by have:=HBe.out;omega);have hne:w.heap.size+1+1≠B:=(by have:=HBe.out;omega))
  |fail)
 clear HC HG HB HT HX HY HX1 HY1 HZ1 HB2 HM2 HBW hz3 fz3;obtain⟨v3,hv3⟩: ∃v3,m3.out=v3:=⟨_,rfl⟩;have HV3:Hid (some m3.out=some v3):=congrArg some hv3;have HVV:Hid (m3.out=v3):=hv3;have HSL:Hid (∃q1 q2 q3,v3= .slice q1 q2 q3):=by obtain⟨p,c,hh⟩:=HO3.out.shape;exact⟨p,_,c,hv3.symm.trans hh⟩
 have HK3:Hid (some (Value.int .i64 m3.steps)=some (A F (k:Int))):=congrArg (fun x=>some (Value.int .i64 x)) HK0.out;have HN0:Hid (some (m3.cell 3)=some (A F n0)):=by rw[HN3.out, <-HA.out];rfl
 clear hv3;refine wp_region_held_drew (S:=RS2 B (w.heap.size+1+1) m3) kR ⟨hM3,z0e,rfl,HZ3.out⟩ fun hS=>?_;change wpAnyH _ _ _ _ _ 21 (Array.replicate 21 false) _ _
 refine tkH (i:=0) (some 37) (pT (some ⟨B,0,none⟩)) rfl rfl (fun W hW=>?_) hS ?_
 ·go_simp
 simp only[pS];refine tkH (i:=1) (some 38) (pT (some ⟨B,0,none⟩)) rfl rfl (fun W hW=>?_) hS ?_
 ·go_simp
 simp only[pS];refine tkH (i:=2) (some 39) (pT (some ⟨B,2,none⟩)) rfl rfl (fun W hW=>?_) hS ?_
 ·go_simp
 simp only[pS];refine tkH (i:=3) (some 40) (pT (some ⟨B,2,none⟩)) rfl rfl (fun W hW=>?_) hS ?_
 ·go_simp
 simp only[pS];refine tkH (i:=4) (some 41) (pT (some ⟨B,3,none⟩)) rfl rfl (fun W hW=>?_) hS ?_
 ·go_simp
 simp only[pS];refine tkH (i:=5) (some 42) (A F n0) rfl rfl (fun W hW=>?_) hS ?_
 ·have y0:W.cell? ⟨B,3,none⟩=some (A F n0):=(hW.1.at 3 kD).trans HN0.out
  go_simp
 simp only[pS];refine tkH (i:=6) (some 43) (pT (some ⟨B,0,none⟩)) rfl rfl (fun W hW=>?_) hS ?_
 ·go_simp
 simp only[pS];refine tkH (i:=7) (some 44) (pT (some ⟨B,0,none⟩)) rfl rfl (fun W hW=>?_) hS ?_
 ·go_simp
 simp only[pS];refine tkH (i:=8) (some 45) (pT (some ⟨B,91,none⟩)) rfl rfl (fun W hW=>?_) hS ?_
 ·go_simp
 simp only[pS];refine tkH (i:=9) (some 46) (.agg #[A F (a.cel 0),A F (a.cel 1),A F (a.cel 2),A F (a.cel 3),A F (a.cel 4),A F (a.cel 5),A F (a.cel 6),A F (a.cel 7),A F (a.cel 8),A F (a.cel 9),A F (a.cel 10),A F (a.cel 11),A F (a.cel 12),A F (a.cel 13),A F (a.cel 14),A F (a.cel 15)]) rfl rfl (fun W hW=>?_) hS ?_
 ·refine q1v (x:= .tmp 45) W B m3 a hW.1 HA.out _ rfl ?_ ?_
  ·rfl
  ·rfl
 simp only[pS];refine tkH (i:=10) (some 47) (pT (some ⟨B,0,none⟩)) rfl rfl (fun W hW=>?_) hS ?_
 ·go_simp
 simp only[pS];refine tkH (i:=11) (some 48) (pT (some ⟨B,0,none⟩)) rfl rfl (fun W hW=>?_) hS ?_
 ·go_simp
 simp only[pS];refine tkH (i:=12) (some 49) (pT (some ⟨B,108,none⟩)) rfl rfl (fun W hW=>?_) hS ?_
 ·go_simp
 simp only[pS];refine tkH (i:=13) (some 50) (v3) rfl rfl (fun W hW=>?_) hS ?_
 ·have y0:W.cell? ⟨B,108,none⟩=some v3:=hW.1.outv.trans HV3.out
  obtain⟨q1,q2,q3,hq⟩:=HSL.out;subst hq;go_simp
 simp only[pS];refine tkH (i:=14) (some 51) (pT (some ⟨B,0,none⟩)) rfl rfl (fun W hW=>?_) hS ?_
 ·go_simp
 simp only[pS];refine tkH (i:=15) (some 52) (pT (some ⟨B,0,none⟩)) rfl rfl (fun W hW=>?_) hS ?_
 ·go_simp
 simp only[pS];refine tkH (i:=16) (some 53) (pT (some ⟨B,1,none⟩)) rfl rfl (fun W hW=>?_) hS ?_
 ·go_simp
 simp only[pS];refine tkH (i:=17) (some 54) (A F (k:Int)) rfl rfl (fun W hW=>?_) hS ?_
 ·have y0:W.cell? ⟨B,1,none⟩=some (A F (k:Int)):=hW.1.steps.trans HK3.out
  go_simp
 simp only[pS];refine tkH (i:=18) (some 55) (.agg #[A F n0,A F (a.cel 0),A F (a.cel 1),A F (a.cel 2),A F (a.cel 3),A F (a.cel 4),A F (a.cel 5),A F (a.cel 6),A F (a.cel 7),A F (a.cel 8),A F (a.cel 9),A F (a.cel 10),A F (a.cel 11),A F (a.cel 12),A F (a.cel 13),A F (a.cel 14),A F (a.cel 15),v3,A F (k:Int)]) rfl rfl (fun W hW=>?_) hS ?_
 ·obtain⟨q1,q2,q3,hq⟩:=HSL.out
  subst hq;go_simp
 simp only[pS];refine wpAnyH_ready (rs:=[19]) kR kS ?_
 have hone:(#[A F n0,A F (a.cel 0),A F (a.cel 1),A F (a.cel 2),A F (a.cel 3),A F (a.cel 4),A F (a.cel 5),A F (a.cel 6),A F (a.cel 7),A F (a.cel 8),A F (a.cel 9),A F (a.cel 10),A F (a.cel 11),A F (a.cel 12),A F (a.cel 13),A F (a.cel 14),A F (a.cel 15),v3,A F (k:Int)]:Array Value).all (·.oneCell')=true:=by
  obtain⟨q1,q2,q3,hq⟩:=HSL.out;rw[hq];kernel_rfl
 have hA:RS2 B (w.heap.size+1+1) m3 (w3.drew.setRow (w.heap.size+1+1) #[A F n0,A F (a.cel 0),A F (a.cel 1),A F (a.cel 2),A F (a.cel 3),A F (a.cel 4),A F (a.cel 5),A F (a.cel 6),A F (a.cel 7),A F (a.cel 8),A F (a.cel 9),A F (a.cel 10),A F (a.cel 11),A F (a.cel 12),A F (a.cel 13),A F (a.cel 14),A F (a.cel 15),v3,A F (k:Int)]):=⟨(setRow_other w3.drew _ B _ (fun e=>hne e.symm)).trans hM3,_,rfl,setRow_heap w3.drew _ z0e _ _ _ HZ3.out⟩;refine z5n (w3.drew.setRow (w.heap.size+1+1) #[A F n0,A F (a.cel 0),A F (a.cel 1),A F (a.cel 2),A F (a.cel 3),A F (a.cel 4),A F (a.cel 5),A F (a.cel 6),A F (a.cel 7),A F (a.cel 8),A F (a.cel 9),A F (a.cel 10),A F (a.cel 11),A F (a.cel 12),A F (a.cel 13),A F (a.cel 14),A F (a.cel 15),v3,A F (k:Int)]) rfl rfl kI ?_ hA ?_ AllReadyH.nil
 ·exact z4a _ _ _ _ _ rfl rfl rfl HZ3.out rfl hone
 simp only[Act.put];refine tkH (i:=20) (some 9) (.nilIface) rfl rfl (fun W hW=>?_) hA ?_
 ·go_simp
 simp only[pS];refine wpAnyH_done kR ?_ _;go_wp2;refine bodyPost_ret (v:= .tuple #[.agg #[A F n0,A F (a.cel 0),A F (a.cel 1),A F (a.cel 2),A F (a.cel 3),A F (a.cel 4),A F (a.cel 5),A F (a.cel 6),A F (a.cel 7),A F (a.cel 8),A F (a.cel 9),A F (a.cel 10),A F (a.cel 11),A F (a.cel 12),A F (a.cel 13),A F (a.cel 14),A F (a.cel 15),v3,A F (k:Int)],.nilIface]) (z93 _ _ (w.heap.size+1+1) #[A F n0,A F (a.cel 0),A F (a.cel 1),A F (a.cel 2),A F (a.cel 3),A F (a.cel 4),A F (a.cel 5),A F (a.cel 6),A F (a.cel 7),A F (a.cel 8),A F (a.cel 9),A F (a.cel 10),A F (a.cel 11),A F (a.cel 12),A F (a.cel 13),A F (a.cel 14),A F (a.cel 15),v3,A F (k:Int)] _ rfl rfl (setRow_heap w3.drew _ z0e _ _ _ HZ3.out) rfl) rfl ⟨v3,rfl,z25 HBW3.out.drew kO _,?_⟩;have hL:L3=a.out:=by rw[<-HA.out];rfl
 have hown:w3.ownsRow (B+1) 2 1 m3.out L3.length (L3.map (Value.int .i64)):=HO3.out;rw[HVV.out,hL]at hown;exact q56 hown (by have:=HBe.out;omega) (by have:=HBe.out;omega) _
end
section
structure Pg where
 id:Int
 rank:Int
 sl:Value
 xs:List St
 tab:Nat->Int
def pg0:Pg:=⟨0,0,.slice none 0 0,[],fun _=>0⟩
structure Gt where
 ps:List Pg
 last:Int
 evs:List (Nat->Int)
 may:Int
 left:Int
structure Dsk where
 g:Nat->Gt
 ran:Int
def z9p(p:Pg)(j:Nat):Value:=if j=0 then A F p.id else if j=1 then A F p.rank else if j=2 then p.sl else A F (p.tab (j-3))
def z22(ps:List Pg)(last:Int)(i:Nat):Value:=if i<152 then z9p (ps.getD (i/19) pg0) (i%19)else if i=152 then A F (ps.length:Int)else A F last
def z61(evs:List (Nat->Int))(i:Nat):Value:=A F (evs.getD (i/8) (fun _=>0) (i%8))
def z0y(g:Gt)(i:Nat):Value:=if i<154 then z22 g.ps g.last i else if i<314 then z61 g.evs (i-154)else if i=314 then A F (g.evs.length:Int)else if i=315 then A F g.may else A F g.left
def Dsk.cell(d:Dsk)(i:Nat):Value:=if i<951 then z0y (d.g (i/317)) (i%317)else A F d.ran
def FnAt(w:World)(B:Nat)(f:Nat->Value):Prop:=w.heap[B]?=some (cT (Array.ofFn (n:=952) fun i=>f i.1) 125 (0,0))
abbrev z0f(w:World)(B:Nat)(d:Dsk):Prop:=FnAt w B d.cell
def Dsk.put(d:Dsk)(k:Nat)(x:Gt):Dsk:={d with g:=fun i=>if i=k then x else d.g i}
theorem z1s(d:Dsk){k j:Nat}(hk:k<3)(hj:j<317):d.cell (k*317+j)=z0y (d.g k) j:=by
 unfold Dsk.cell;rw[if_pos kO,show(k*317+j)/317=k by omega,show(k*317+j)%317=j by omega]
theorem q33(d:Dsk):d.cell 951=A F d.ran:=if_neg kO
theorem z65(d:Dsk){k:Nat}(x:Gt)(hk:k<3)(j:Nat):(d.put k x).cell j=if k*317<=j/\j<k*317+317 then z0y x (j-k*317)else d.cell j:=by
 unfold Dsk.cell Dsk.put;dsimp only
 by_cases h:j<951
 ·rw[if_pos h,if_pos h]
  by_cases e:j/317=k
  ·rw[if_pos e,if_pos kO,show j%317=j-k*317 by omega]
  ·rw[if_neg e,if_neg kO]
 rw[if_neg h,if_neg h,if_neg kO]
section
variable {w w':World} {B:Nat} {f f':Nat->Value} {d:Dsk}
theorem FnAt.lt(h:FnAt w B f):B<w.heap.size:=(Array.getElem?_eq_some_iff.1 h).1
theorem FnAt.at(h:FnAt w B f)(i:Nat)(hi:i<952):w.cell? ⟨B,i,none⟩=some (f i):=by
 rw[cell_of_row w B i _ _ _ h];simp[hi]
theorem FnAt.frozen(h:FnAt w B f)(i:Nat):w.frozen? ⟨B,i,none⟩=false:=by
 have h':w.heap[B]?=some (cT (Array.ofFn (n:=952) fun i=>f i.1) 125 (0,0)):=h;simp[World.frozen?,h']
theorem FnAt.later(h:FnAt w B f)(hb:Below w.heap.size w w'):FnAt w' B f:=(hb.block B h.lt).trans h
theorem FnAt.block(h:FnAt w B f)(hb:w'.heap[B]?=w.heap[B]?):FnAt w' B f:=hb.trans h
theorem FnAt.gate(h:z0f w B d){k j:Nat}(hk:k<3)(hj:j<317):w.cell? ⟨B,k*317+j,none⟩=some (z0y (d.g k) j):=by
 rw[FnAt.at h _ kO,z1s d hk hj]
theorem FnAt.there(h:FnAt w B f){o n:Nat}(hn:o+n<=952):w.there B o n:=fun j hj=>⟨by rw[h.at _ kO];rfl,h.frozen _⟩
theorem FnAt.ext(h:FnAt w B f)(he: ∀j,j<952->f' j=f j):FnAt w B f':=by
 suffices e:(Array.ofFn (n:=952) fun i=>f' i.1)=(Array.ofFn (n:=952) fun i=>f i.1)by
  unfold FnAt;rw[e];exact h
 apply Array.ext
 ·simp
 intro j h1 h2;simp only[Array.size_ofFn]at h1;simp only[Array.getElem_ofFn];exact he j h1
theorem FnAt.set(h:FnAt w B f)(i:Nat)(v:Value):FnAt (w.setCell ⟨B,i,none⟩ v) B fun j=>if j=i then v else f j:=by
 suffices e:(Array.ofFn (n:=952) fun i=>f i.1).setIfInBounds i v=(Array.ofFn (n:=952) fun j=>if j.1=i then v else f j.1)by
  unfold FnAt;rw[<-e];exact heap_setCell_same w B i _ _ v h
 apply Array.ext
 ·simp
 intro j h1 h2;simp only[Array.size_ofFn]at h2;rw[Array.getElem_setIfInBounds (by simpa using h2)];simp only[Array.getElem_ofFn]
 by_cases hj:i=j
 ·rw[if_pos hj,if_pos hj.symm]
 rw[if_neg hj,if_neg (fun e=>hj e.symm)]
theorem FnAt.setCells(h:FnAt w B f): ∀(vs:List Value)(o:Nat),FnAt (w.setCells B o vs) B fun j=>if o<=j/\j<o+vs.length then vs.getD (j-o) undef else f j:=by
 intro vs;induction vs generalizing w f with
 |nil=>intro o;exact FnAt.ext h fun j _=>by rw[if_neg (by rw[List.length_nil];omega)]
 |cons v r ih=>
  intro o;rw[World.setCells];refine FnAt.ext (ih (h.set o v) (o+1)) fun j hj=>?_;rw[List.length_cons]
  by_cases c:j=o
  ·subst c
   rw[if_pos ⟨Nat.le_refl _,by omega⟩,if_neg kO,if_pos rfl,Nat.sub_self];rfl
  ·by_cases c2:o+1<=j/\j<o+1+r.length
   ·rw[if_pos c2,if_pos ⟨by omega,by omega⟩,show j-o=(j-(o+1))+1 by omega];rfl
   ·rw[if_neg c2,if_neg kO,if_neg c]
end
theorem z14{w:World}{B k:Nat}(h:k≠B): ∀(vs:List Value)(o:Nat),(w.setCells B o vs).heap[k]?=w.heap[k]?:=by
 intro vs;induction vs generalizing w with
 |nil=>intro o;rfl
 |cons v r ih=>intro o;rw[World.setCells,ih];exact heap_setCell_other _ _ _ _ h
theorem z6z(B:Nat): ∀(vs:List Value)(o:Nat)(w:World),(w.setCells B o vs).heap.size=w.heap.size/\(w.setCells B o vs).os=w.os/\(w.setCells B o vs).tape=w.tape/\(w.setCells B o vs).output=w.output:=by
 intro vs;induction vs with
 |nil=>intro o w;exact⟨rfl,rfl,rfl,rfl⟩
 |cons v r ih=>intro o w;rw[World.setCells];obtain⟨h1,h2,h3,h4⟩:=ih (o+1) (w.setCell ⟨B,o,none⟩ v);exact⟨h1.trans kS,h2,h3,h4⟩
theorem z1w{w w1:World}{B:Nat}(h:Kept B w w1)(o:Nat)(vs:List Value):Kept B w (w1.setCells B o vs):=by
 obtain⟨h1,h2,h3,h4⟩:=z6z B vs o w1;exact⟨h2.trans h.os,h3.trans h.tape,h4.trans h.output,by rw[h1];exact h.size,fun k hk hne=>(z14 (fun e=>hne (by rw[e])) vs o).trans (h.block k hk hne)⟩
end
end Go.Proofs.YtkdflpplamebkaaGreatDoor
