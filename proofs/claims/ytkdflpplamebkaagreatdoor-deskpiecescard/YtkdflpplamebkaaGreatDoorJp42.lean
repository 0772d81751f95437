/-
A part of the proof of DeskPieces; its card says what is proved.
-/
import Derived.Test.YtkdflpplamebkaaGreatDoorJp41
set_option maxHeartbeats 40000000
open Go.Value renaming int → A
open Go.IntKind renaming i64 → C
open Go.RowKit.Below renaming alloc → bA, setCell → bS, drew → bD, refl → bF
set_option maxRecDepth 1000000
set_option linter.defProp false
set_option linter.unusedVariables false
set_option linter.unusedSimpArgs false
open Go.Ending renaming returned → rT
open Go.Value renaming pointer → pT
open Go.Obj renaming cells → cT
open Go.Proofs.Tryz renaming prog → tP
namespace Go.Proofs.YtkdflpplamebkaaGreatDoor
section
open Go.ChangeShapes Go.WideShapes Go.ChangeAt Go.RowKit
attribute [local simp] z05 z0a z06
variable {ex:Ext}
theorem zLp(S:Nat)(a:Option Addr)(cap:Nat)(ys:List Int)(x y z:Int)(pr:ByteArray)(w:World){u0:Value}(hS0:Boxed w S 47 u0)(HX:Hid (z19 w a ys))(H3:Hid (3<=ys.length/\ys.getD 0 0=x/\ys.getD 1 0=y/\ys.getD 2 0=z)):(∀(HNS:Hid (∀p,a=some p->p.block≠S)){D:Dsk}(HNW:Hid (∀W,Below w.heap.size w W->Calls tP 36 #[.agg #[A C x,A C y,A C z]] W fun e w'=> ∃B',e= rT (.tuple #[pT (some ⟨B',0,none⟩),.nilIface])/\Below W.heap.size W w'/\W.heap.size<=B'/\z0f w' B' D)),Calls tP 14 #[pT (some ⟨S,0,none⟩),.agg #[.slice a ys.length cap,.string pr]] w fun e w'=>e= rT (.string ⟨#[110,101,119]⟩)/\Kept S w w'/\ ∃B',Boxed w' S 47 (pT (some ⟨B',0,none⟩))/\w.heap.size<=B'/\z0f w' B' D)/\(∀(hg:z0p w){c:Int}(HNW:Hid (∀W,Below w.heap.size w W->zR 36 #[.agg #[A C x,A C y,A C z]] W (.tuple #[pT none,.iface 33 (A C c)]))),Calls tP 14 #[pT (some ⟨S,0,none⟩),.agg #[.slice a ys.length cap,.string pr]] w fun e w'=>e=z2c c/\Below w.heap.size w w'):=by
 refine⟨?_,?_⟩;intro HNS D HNW;rotate_left;intro hg c HNW;rotate_left
 all_goals
  have hSl:=hS0.lt;have hl0:(0:Int)<(ys.length:Int):=by have:=H3.out.1;omega
  have hl1:(1:Int)<(ys.length:Int):=by have:=H3.out.1;omega
  have hl2:(2:Int)<(ys.length:Int):=by have:=H3.out.1;omega
  have hl3:0<ys.length:=kO;have hl4:1<ys.length:=kO;have hl5:2<ys.length:=kO
  obtain⟨bk,off,rfl,hbk,hx⟩: ∃bk off,a=some ⟨bk,off,none⟩/\bk<w.heap.size/\ ∀i,i<ys.length->w.cell? ⟨bk,off+i,none⟩=some (A C (ys.getD i 0)):=by
   rcases HX.out with h|h
   ·omega
   ·exact h
  have hb:Below w.heap.size w (w.alloc (cT #[.slice (some ⟨bk,off,none⟩) ys.length cap,.string pr] 51)):=(bF _ _).alloc (Nat.le_refl _) _;have hn:=heap_alloc_new w (cT #[.slice (some ⟨bk,off,none⟩) ys.length cap,.string pr] 51);have x0:=(hb.cell (p:=⟨bk,off+0,none⟩) hbk).trans (hx 0 kO);have x1:=(hb.cell (p:=⟨bk,off+1,none⟩) hbk).trans (hx 1 kO);have x2:=(hb.cell (p:=⟨bk,off+2,none⟩) hbk).trans (hx 2 kO);rw[Nat.add_zero,H3.out.2.1]at x0;rw[H3.out.2.2.1]at x1;rw[H3.out.2.2.2]at x2;clear hx
 all_goals
  go_enter Tryz.func14,Tryz.ntmps14;go_upto_region 1 with fail
  generalize w.alloc (cT #[.slice (some ⟨bk,off,none⟩) ys.length cap,.string pr] 51)=w0 at hb hn x0 x1 x2⊢;have n0:w0.cell? ⟨w.heap.size,0,none⟩=some (.slice (some ⟨bk,off,none⟩) ys.length cap):=(cell_of_row w0 w.heap.size 0 _ _ _ hn).trans rfl;have n1:w0.cell? ⟨w.heap.size,1,none⟩=some (.string pr):=(cell_of_row w0 w.heap.size 1 _ _ _ hn).trans rfl;have hbk0:bk<w0.heap.size:=Nat.lt_of_lt_of_le hbk hb.size;have hn0:w.heap.size<w0.heap.size:=(Array.getElem?_eq_some_iff.1 hn).1;have hSl0:S<w0.heap.size:=Nat.lt_of_lt_of_le hSl hb.size
 ·have hnS:bk≠S:=HNS.out _ rfl
  refine wp_region_held_drew (S:=fun W=>W.cell? ⟨w.heap.size,0,none⟩=some (.slice (some ⟨bk,off,none⟩) ys.length cap)/\W.cell? ⟨bk,off,none⟩=some (A C x)/\W.cell? ⟨bk,off+1,none⟩=some (A C y)/\W.cell? ⟨bk,off+2,none⟩=some (A C z)) kR (⟨n0,x0,x1,x2⟩) fun hS=>?_;change wpAnyH _ _ _ _ _ 21 (Array.replicate 21 false) _ _
  refine tkH (i:=0) (some 5) (pT (some ⟨S,0,none⟩)) rfl rfl (fun _ _=>kG) hS ?_;simp only[pS];refine tkH (i:=1) (some 6) (pT (some ⟨w.heap.size,0,none⟩)) rfl rfl (fun _ _=>kG) hS ?_;simp only[pS];refine tkH (i:=2) (some 7) (.slice (some ⟨bk,off,none⟩) ys.length cap) rfl rfl (fun W hC=>by obtain⟨m0,y0,y1,y2⟩:=hC;go_simp;first|done|rfl) hS ?_;simp only[pS];refine tkH (i:=3) (some 8) (pT (some ⟨bk,off,none⟩)) rfl rfl (fun _ _=>kG) hS ?_;simp only[pS];refine tkH (i:=4) (some 9) (A C x) rfl rfl (fun W hC=>by obtain⟨m0,y0,y1,y2⟩:=hC;go_simp;first|done|rfl) hS ?_;simp only[pS];refine tkH (i:=5) (some 10) (pT (some ⟨w.heap.size,0,none⟩)) rfl rfl (fun _ _=>kG) hS ?_;simp only[pS];refine tkH (i:=6) (some 11) (.slice (some ⟨bk,off,none⟩) ys.length cap) rfl rfl (fun W hC=>by obtain⟨m0,y0,y1,y2⟩:=hC;go_simp;first|done|rfl) hS ?_;simp only[pS];refine tkH (i:=7) (some 12) (pT (some ⟨bk,off+1,none⟩)) rfl rfl (fun _ _=>kG) hS ?_;simp only[pS];refine tkH (i:=8) (some 13) (A C y) rfl rfl (fun W hC=>by obtain⟨m0,y0,y1,y2⟩:=hC;go_simp;first|done|rfl) hS ?_;simp only[pS];refine tkH (i:=9) (some 14) (pT (some ⟨w.heap.size,0,none⟩)) rfl rfl (fun _ _=>kG) hS ?_;simp only[pS];refine tkH (i:=10) (some 15) (.slice (some ⟨bk,off,none⟩) ys.length cap) rfl rfl (fun W hC=>by obtain⟨m0,y0,y1,y2⟩:=hC;go_simp;first|done|rfl) hS ?_;simp only[pS];refine tkH (i:=11) (some 16) (pT (some ⟨bk,off+2,none⟩)) rfl rfl (fun _ _=>kG) hS ?_;simp only[pS];refine tkH (i:=12) (some 17) (A C z) rfl rfl (fun W hC=>by obtain⟨m0,y0,y1,y2⟩:=hC;go_simp;first|done|rfl) hS ?_;simp only[pS];refine tkH (i:=13) (some 18) (.agg #[A C x,A C y,A C z]) rfl rfl (fun _ _=>kG) hS ?_;simp only[pS];refine wpAnyH_ready (rs:=[14]) kR kS ?_;refine z2m (some 19) 36 #[.agg #[A C x,A C y,A C z]] rfl rfl kI kG ((HNW.out _ hb.drew).mono ?_) AllReadyH.nil;rintro e w1 ⟨B',rfl,hb1',hB',hD1⟩;have hb1:Below w0.heap.size w0 w1:=((bF _ _).drew).trans (hb1'.mono kS);refine⟨_,rfl,⟨(hb1.cell (p:=⟨w.heap.size,0,none⟩) hn0).trans n0,(hb1.cell (p:=⟨bk,off,none⟩) hbk0).trans x0,(hb1.cell (p:=⟨bk,off+1,none⟩) hbk0).trans x1,(hb1.cell (p:=⟨bk,off+2,none⟩) hbk0).trans x2⟩,?_⟩;simp only[pS];refine tkH (i:=15) (some 20) (pT (some ⟨B',0,none⟩)) rfl rfl (fun _ _=>kG) ⟨(hb1.cell (p:=⟨w.heap.size,0,none⟩) hn0).trans n0,(hb1.cell (p:=⟨bk,off,none⟩) hbk0).trans x0,(hb1.cell (p:=⟨bk,off+1,none⟩) hbk0).trans x1,(hb1.cell (p:=⟨bk,off+2,none⟩) hbk0).trans x2⟩ ?_;simp only[pS];refine tkH (i:=16) (some 21) (.nilIface) rfl rfl (fun _ _=>kG) ⟨(hb1.cell (p:=⟨w.heap.size,0,none⟩) hn0).trans n0,(hb1.cell (p:=⟨bk,off,none⟩) hbk0).trans x0,(hb1.cell (p:=⟨bk,off+1,none⟩) hbk0).trans x1,(hb1.cell (p:=⟨bk,off+2,none⟩) hbk0).trans x2⟩ ?_;simp only[pS];refine wpAnyH_ready (rs:=[17]) kR kS ?_;refine z2m (some 22) 35 #[pT (some ⟨B',0,none⟩),.nilIface] rfl rfl kI kG ((zVl _ _).mono ?_) AllReadyH.nil;rintro e w2 ⟨rfl,rfl⟩;refine⟨_,rfl,⟨(hb1.cell (p:=⟨w.heap.size,0,none⟩) hn0).trans n0,(hb1.cell (p:=⟨bk,off,none⟩) hbk0).trans x0,(hb1.cell (p:=⟨bk,off+1,none⟩) hbk0).trans x1,(hb1.cell (p:=⟨bk,off+2,none⟩) hbk0).trans x2⟩,?_⟩;simp only[pS];have hs1:(fun W=>W.cell? ⟨w.heap.size,0,none⟩=some (.slice (some ⟨bk,off,none⟩) ys.length cap)/\W.cell? ⟨bk,off,none⟩=some (A C x)/\W.cell? ⟨bk,off+1,none⟩=some (A C y)/\W.cell? ⟨bk,off+2,none⟩=some (A C z)) w2:=⟨(hb1.cell (p:=⟨w.heap.size,0,none⟩) hn0).trans n0,(hb1.cell (p:=⟨bk,off,none⟩) hbk0).trans x0,(hb1.cell (p:=⟨bk,off+1,none⟩) hbk0).trans x1,(hb1.cell (p:=⟨bk,off+2,none⟩) hbk0).trans x2⟩;have hbw:=hb.trans (hb1.mono hb.size);have hS2:Boxed w2 S 47 u0:=(hbw.block S hSl).trans hS0;have hu2:=hS2.cell;have hz2:=hS2.frozen
  have hBS:B'≠S:=by
   have h1:w0.heap.size<=B':=by simpa using hB'
   omega
  have hw0:w.heap.size≠S:=kO;refine tkH (i:=18) (some 23) (pT (some ⟨S,0,none⟩)) rfl rfl (fun _ _=>kG) hs1 ?_;simp only[pS];refine tkH (i:=19) (some 24) (pT (some ⟨S,0,none⟩)) rfl rfl (fun _ _=>kG) hs1 ?_;simp only[pS];refine wpAnyH_ready (rs:=[20]) kR kS ?_
  have hs2:(fun W=>W.cell? ⟨w.heap.size,0,none⟩=some (.slice (some ⟨bk,off,none⟩) ys.length cap)/\W.cell? ⟨bk,off,none⟩=some (A C x)/\W.cell? ⟨bk,off+1,none⟩=some (A C y)/\W.cell? ⟨bk,off+2,none⟩=some (A C z)) (w2.setCell ⟨S,0,none⟩ (pT (some ⟨B',0,none⟩))):=by
   refine⟨?_,?_,?_,?_⟩
   all_goals rw[World.cell?_setCell_other _ _ _ _ (by first|(simp;done)|(simp;omega))]
   ·exact hs1.1
   ·exact hs1.2.1
   ·exact hs1.2.2.1
   ·exact hs1.2.2.2
  refine z5n (w2.setCell ⟨S,0,none⟩ (pT (some ⟨B',0,none⟩))) rfl rfl kI kG hs2 ?_ AllReadyH.nil;simp only[pS];refine wpAnyH_done kR ?_ _;go_wp2_with fail;go_ret;refine⟨rfl,z13 (z0d hbw S) _ _,B',hS2.set _,?_,?_⟩
  ·have h1:w0.heap.size<=B':=by simpa using hB'
   exact Nat.le_trans hb.size h1
  exact FnAt.block hD1 (Below.heap_setCell _ _ _ _ hBS)
 ·refine wp_region_held_drew (S:=fun W=>Below w0.heap.size w0 W) kR ((bF _ _).drew) fun hS=>?_
  change wpAnyH _ _ _ _ _ 21 (Array.replicate 21 false) _ _
  refine tkH (i:=0) (some 5) (pT (some ⟨S,0,none⟩)) rfl rfl (fun _ _=>kG) hS ?_;simp only[pS];refine tkH (i:=1) (some 6) (pT (some ⟨w.heap.size,0,none⟩)) rfl rfl (fun _ _=>kG) hS ?_;simp only[pS];refine tkH (i:=2) (some 7) (.slice (some ⟨bk,off,none⟩) ys.length cap) rfl rfl (fun W hC=>by have m0:=(hC.cell (p:=⟨w.heap.size,0,none⟩) hn0).trans n0;have y0:=(hC.cell (p:=⟨bk,off,none⟩) hbk0).trans x0;have y1:=(hC.cell (p:=⟨bk,off+1,none⟩) hbk0).trans x1;have y2:=(hC.cell (p:=⟨bk,off+2,none⟩) hbk0).trans x2;go_simp;first|done|rfl) hS ?_;simp only[pS];refine tkH (i:=3) (some 8) (pT (some ⟨bk,off,none⟩)) rfl rfl (fun _ _=>kG) hS ?_;simp only[pS];refine tkH (i:=4) (some 9) (A C x) rfl rfl (fun W hC=>by have m0:=(hC.cell (p:=⟨w.heap.size,0,none⟩) hn0).trans n0;have y0:=(hC.cell (p:=⟨bk,off,none⟩) hbk0).trans x0;have y1:=(hC.cell (p:=⟨bk,off+1,none⟩) hbk0).trans x1;have y2:=(hC.cell (p:=⟨bk,off+2,none⟩) hbk0).trans x2;go_simp;first|done|rfl) hS ?_;simp only[pS];refine tkH (i:=5) (some 10) (pT (some ⟨w.heap.size,0,none⟩)) rfl rfl (fun _ _=>kG) hS ?_;simp only[pS];refine tkH (i:=6) (some 11) (.slice (some ⟨bk,off,none⟩) ys.length cap) rfl rfl (fun W hC=>by have m0:=(hC.cell (p:=⟨w.heap.size,0,none⟩) hn0).trans n0;have y0:=(hC.cell (p:=⟨bk,off,none⟩) hbk0).trans x0;have y1:=(hC.cell (p:=⟨bk,off+1,none⟩) hbk0).trans x1;have y2:=(hC.cell (p:=⟨bk,off+2,none⟩) hbk0).trans x2;go_simp;first|done|rfl) hS ?_;simp only[pS];refine tkH (i:=7) (some 12) (pT (some ⟨bk,off+1,none⟩)) rfl rfl (fun _ _=>kG) hS ?_;simp only[pS];refine tkH (i:=8) (some 13) (A C y) rfl rfl (fun W hC=>by have m0:=(hC.cell (p:=⟨w.heap.size,0,none⟩) hn0).trans n0;have y0:=(hC.cell (p:=⟨bk,off,none⟩) hbk0).trans x0;have y1:=(hC.cell (p:=⟨bk,off+1,none⟩) hbk0).trans x1;have y2:=(hC.cell (p:=⟨bk,off+2,none⟩) hbk0).trans x2;go_simp;first|done|rfl) hS ?_;simp only[pS];refine tkH (i:=9) (some 14) (pT (some ⟨w.heap.size,0,none⟩)) rfl rfl (fun _ _=>kG) hS ?_;simp only[pS];refine tkH (i:=10) (some 15) (.slice (some ⟨bk,off,none⟩) ys.length cap) rfl rfl (fun W hC=>by have m0:=(hC.cell (p:=⟨w.heap.size,0,none⟩) hn0).trans n0;have y0:=(hC.cell (p:=⟨bk,off,none⟩) hbk0).trans x0;have y1:=(hC.cell (p:=⟨bk,off+1,none⟩) hbk0).trans x1;have y2:=(hC.cell (p:=⟨bk,off+2,none⟩) hbk0).trans x2;go_simp;first|done|rfl) hS ?_;simp only[pS];refine tkH (i:=11) (some 16) (pT (some ⟨bk,off+2,none⟩)) rfl rfl (fun _ _=>kG) hS ?_;simp only[pS];refine tkH (i:=12) (some 17) (A C z) rfl rfl (fun W hC=>by have m0:=(hC.cell (p:=⟨w.heap.size,0,none⟩) hn0).trans n0;have y0:=(hC.cell (p:=⟨bk,off,none⟩) hbk0).trans x0;have y1:=(hC.cell (p:=⟨bk,off+1,none⟩) hbk0).trans x1;have y2:=(hC.cell (p:=⟨bk,off+2,none⟩) hbk0).trans x2;go_simp;first|done|rfl) hS ?_;simp only[pS];refine tkH (i:=13) (some 18) (.agg #[A C x,A C y,A C z]) rfl rfl (fun _ _=>kG) hS ?_;simp only[pS];refine wpAnyH_ready (rs:=[14]) kR kS ?_;refine z2m (some 19) 36 #[.agg #[A C x,A C y,A C z]] rfl rfl kI kG ((HNW.out _ hb.drew).mono ?_) AllReadyH.nil;rintro e w1 ⟨rfl,hb1'⟩;have hb1:Below w0.heap.size w0 w1:=hS.trans (hb1'.mono hS.size);refine⟨_,rfl,hb1,?_⟩;simp only[pS];refine tkH (i:=15) (some 20) (pT none) rfl rfl (fun _ _=>kG) hb1 ?_;simp only[pS];refine tkH (i:=16) (some 21) (.iface 33 (A C c)) rfl rfl (fun _ _=>kG) hb1 ?_;simp only[pS];have hbw:=hb.trans (hb1.mono hb.size);refine wpAnyH_ready (rs:=[17]) kR kS ?_;refine z8t 35 #[pT none,.iface 33 (A C c)] rfl kI kG ((zHx _ (hg.later hbw) (Or.inl rfl)).mono ?_) AllReadyH.nil;rintro e w3 ⟨rfl,hb3⟩;exact⟨_,rfl,rfl,rfl,hbw.trans (hb3.mono hbw.size)⟩
def zG4:=fun S a cap ys x y z pr w {u0} hS0 HX H3=>(@zLp S a cap ys x y z pr w u0 hS0 HX H3).1
def zWd:=fun S a cap ys x y z pr w {u0} hS0 HX H3=>(@zLp S a cap ys x y z pr w u0 hS0 HX H3).2
theorem q3b(w:World):Calls tP 8 #[] w fun e w'=> ∃B,e= rT (pT (some ⟨w.heap.size,0,none⟩))/\Below w.heap.size w w'/\Boxed w' w.heap.size 47 (pT (some ⟨B,0,none⟩))/\w.heap.size<B/\z0f w' B (z3o (fun i=>[10,20,30].getD i 0) 3):=by
 have hb1:Below w.heap.size w (w.alloc (cT #[pT none] 47)):=(bF _ _).alloc (Nat.le_refl _) _;have hS1:=Boxed.new w 47 (pT none);have hz1':(w.alloc (cT #[pT none] 47)).heap.size=w.heap.size+1:=by simp
 go_enter Tryz.func8,Tryz.ntmps8;go_upto_region 2 with fail
 generalize w.alloc (cT #[pT none] 47)=w1 at hb1 hS1 hz1'⊢;go_step;refine z00 rfl (pT (some ⟨w.heap.size,0,none⟩)) w1 kG ?_;simp only[pS];obtain⟨i0,hi0,hz0,hz1,hz2⟩:=info_parts Tryz.infoI64;refine wpList_buildSlice rfl 49 2 3 #[(0,.const (A C 10)),(1,.const (A C 20)),(2,.const (A C 30))] rfl #[A C 10,A C 20,A C 30] i0 _ Tryz.underlying49 hi0 hz0 (by rw[hz1];omega) (by rw[hz1];omega) (by rw[hz1];kernel_rfl) ?_;simp only[pS];have hb2:=hb1.alloc hb1.size (cT #[A C 10,A C 20,A C 30] 2);have hS2:=hS1.alloc (cT #[A C 10,A C 20,A C 30] 2);have hN2:=zCi [10,20,30] (heap_alloc_new w1 (cT #[A C 10,A C 20,A C 30] 2)) rfl;generalize w1.alloc (cT #[A C 10,A C 20,A C 30] 2)=w2 at hb2 hS2 hN2⊢;rw[hz1']at hN2⊢;refine z00 rfl (.agg #[.slice (some ⟨w.heap.size+1,0,none⟩) 3 3,.string ⟨#[]⟩]) w2 kG ?_;simp only[pS];have hR:=zG4 w.heap.size (some ⟨w.heap.size+1,0,none⟩) 3 [10,20,30] 10 20 30 ⟨#[]⟩ w2 hS2 hN2 ⟨by decide,rfl,rfl,rfl⟩ (fun p hp=>by obtain rfl:=Option.some.inj hp;simp) (D:=z3o (fun i=>[10,20,30].getD i 0) 3) fun W hW=>(zXs (fun i=>[10,20,30].getD i 0) (by intro k hk;rcases(show k=0\/k=1\/k=2 by omega)with rfl|rfl|rfl<;>decide) (by intro k hk;rcases(show k=0\/k=1\/k=2 by omega)with rfl|rfl|rfl<;>decide) W).mono fun e w' ⟨h1,h2,h3⟩=>⟨_,h1,h2,Nat.le_succ _,h3⟩;refine z0v rfl 14 #[pT (some ⟨w.heap.size,0,none⟩),.agg #[.slice (some ⟨w.heap.size+1,0,none⟩) 3 3,.string ⟨#[]⟩]] kG (R:=fun v w'=>v= .string ⟨#[110,101,119]⟩/\Kept w.heap.size w2 w'/\ ∃B',Boxed w' w.heap.size 47 (pT (some ⟨B',0,none⟩))/\w2.heap.size<=B'/\z0f w' B' (z3o (fun i=>[10,20,30].getD i 0) 3)) (hR.mono fun e w' ⟨h1,h2⟩=>⟨_,h1,rfl,h2⟩) ?_;rintro v w3 ⟨rfl,hk3,B',hS3,hB',hD3⟩;simp only[pS];go_wp2_with fail;go_ret;exact⟨B',rfl,hb2.trans (z3h hk3 hS2.lt),hS3,Nat.lt_of_lt_of_le hS2.lt hB',hD3⟩
end
section
open Go.ChangeShapes Go.WideShapes Go.ChangeAt Go.RowKit Go.Shelf
attribute [local simp] z05 z0a z06
attribute [local go_sem] Oper.semAt_some
variable {ex:Ext}
def zC6:ByteArray:=⟨#[10]⟩
def z49(s:ByteArray):ByteArray:=⟨(Lib.trimSuffix s.data.toList zC6.data.toList).toArray⟩
theorem q6i(s:ByteArray)(hs:s.size<=100000)(w:World):Calls tP 10 #[.string s] w fun e w'=>e= rT (.func (.func 95) #[] #[pT (some ⟨w.heap.size+1,0,none⟩),pT (some ⟨w.heap.size,0,none⟩),pT (some ⟨w.heap.size+2,0,none⟩)])/\w'=((w.alloc (cT #[.string (z49 s)] 9)).alloc (cT #[.string ⟨#[10]⟩] 9)).alloc (cT #[A C 0] 3):=by
 have hT:=Tryz.strings_TrimSuffix s zC6 w kO;go_enter Tryz.func10,Tryz.ntmps10;go_wp2_with(first|(go_at_call 28;refine hT.mono ?_;rintro e w1 ⟨rfl,rfl⟩)|(go_at_call 27;refine(zI2 _ _).mono ?_;rintro e w1 ⟨rfl,rfl⟩)|fail);go_ret;exact⟨rfl,rfl⟩
theorem zJq(s:ByteArray):(z49 s).size<=s.size:=by
 show(Lib.trimSuffix s.data.toList zC6.data.toList).toArray.size<=s.data.size;rw[List.size_toArray,Lib.trimSuffix];split
 ·rw[List.length_take,Array.length_toList]
  omega
 rw[Array.length_toList];exact Nat.le_refl _
def stTo(ans:Dsk->ByteArray->ByteArray×Dsk)(d:Dsk):List ByteArray->Dsk
 |[]=>d
 |x::l=>stTo ans (ans d x).2 l
def z57(ans:Dsk->ByteArray->ByteArray×Dsk)(d:Dsk):List ByteArray->List UInt8
 |[]=>[]
 |x::l=>((ans d x).1++zC6).data.toList++z57 ans (ans d x).2 l
theorem zK1(ans:Dsk->ByteArray->ByteArray×Dsk)(x:ByteArray): ∀(l:List ByteArray)(d:Dsk),stTo ans d (l++[x])=(ans (stTo ans d l) x).2
 |[],d=>rfl
 |y::l,d=>zK1 ans x l (ans d y).2
theorem zGd(ans:Dsk->ByteArray->ByteArray×Dsk)(x:ByteArray): ∀(l:List ByteArray)(d:Dsk),z57 ans d (l++[x])=z57 ans d l++((ans (stTo ans d l) x).1++zC6).data.toList
 |[],d=>by simp[z57,stTo]
 |y::l,d=>by
  show _++z57 ans (ans d y).2 (l++[x])=(_++z57 ans (ans d y).2 l)++_;rw[zGd ans x l (ans d y).2,List.append_assoc];rfl
structure Chg (S:Nat) (W W':World):Prop where
 size:W.heap.size<=W'.heap.size
 os:W'.os=W.os
 tape:W'.tape=W.tape
 output:W'.output=W.output
 ses:W'.heap[S]?=W.heap[S]?
 block: ∀(k:Nat)(cs:Array Value)(t:TypeId)(fz:Nat×Nat),W.heap[k]?=some (Obj.cells cs t fz)->t=125\/t=135->W'.heap[k]?=some (Obj.cells cs t fz)
structure SGo (ex:Ext) (Φ:Dsk->Int->Nat->World->Prop) (ans:Dsk->ByteArray->ByteArray×Dsk) (d0:Dsk) (w:World) (m kb:Nat) (pre:List z2u) (W:World):Prop where
 ses:Φ (stTo ans d0 (pre.map (·.1))) (61*(pre.length:Int)) (w.heap.size+1) W
 map_:W.heap[m]?=some (.map (z07 (w.heap.size+1) 13) 13)
 known:Boxed W kb 35 (.map (some m))
 out:Lib.IsBuilderF 27 5 w.heap.size w.heap.size (Lib.byteCells (z57 ans d0 (pre.map (·.1)))) W
 bel:Below w.heap.size w W
 room:kb+4<=W.heap.size
 cutS: ∃v,Boxed W (kb+1) 9 (.string v)
 cutP:Boxed W (kb+2) 9 (.string ⟨#[10]⟩)
 cutV:Boxed W (kb+3) 3 (A C 0)
 desk: ∃B dd,Boxed W (w.heap.size+1) 47 (pT (some ⟨B,0,none⟩))/\(B<kb\/kb+4<=B)/\w.heap.size+1<B/\z0f W B dd
theorem zBt: ∀(f:Nat)(t:ByteArray),(z1y f t).length<=f+1
 |0,t=>Nat.le_refl _
 |f+1,t=>by
  rw[z1y];split
  ·have:=zBt f (t.extract ((feed t).toNat+1) t.size)
   rw[List.length_cons];omega
  ·show 1<=f+1+1
   omega
theorem zQ9{ans:Dsk->ByteArray->ByteArray×Dsk}(h: ∀d t,(ans d t).1.size<=4000000): ∀(d:Dsk)(l:List ByteArray),(z57 ans d l).length<=l.length*4000001
 |d,[]=>Nat.zero_le _
 |d,x::l=>by
  have h1:=zQ9 h (ans d x).2 l;have h2:=h d x
  have h3:((ans d x).1++zC6).data.toList.length=(ans d x).1.size+1:=by
   show((ans d x).1++zC6).size=_;rw[ByteArray.size_append];rfl
  show(((ans d x).1++zC6).data.toList++z57 ans (ans d x).2 l).length<=(l.length+1)*4000001;rw[List.length_append,h3];omega
theorem zC1{W W':World}{B b:Nat}{bs:List Value}(h:Lib.IsBuilderF 27 5 B b bs W)(hb:W'.heap[b]?=W.heap[b]?)(hr: ∀(g:Nat)(cs:Array Value)(fz:Nat×Nat),W.heap[g]?=some (Obj.cells cs 5 fz)->W'.heap[g]?=some (Obj.cells cs 5 fz)):Lib.IsBuilderF 27 5 B b bs W':=by
 have one: ∀p,Lib.BuilderAtF 27 5 B b p bs W->Lib.BuilderAtF 27 5 B b p bs W':=fun p ⟨h1,v,h2,⟨h3,h4⟩,h5⟩=>⟨h1,v,hb.trans h2,⟨h3,h4.imp id fun⟨g,cap,cur,fz,e1,e2,e3,e4⟩=>⟨g,cap,cur,fz,e1,e2,hr g cur fz e3,e4⟩⟩,h5⟩;exact h.imp (one _) (one _)
theorem z7c{W:World}{B b:Nat}{bs:List Value}(h:Lib.IsBuilderF 27 5 B b bs W): ∃p v,W.heap[b]?=some (cT #[p,v] 27 (0,0)):=by
 rcases h with⟨_,v,h,_⟩|⟨_,v,h,_⟩
 ·exact⟨_,v,h⟩
 exact⟨_,v,h⟩
theorem sgo_next{Φ:Dsk->Int->Nat->World->Prop}{ans:Dsk->ByteArray->ByteArray×Dsk}{d0:Dsk}{w:World}{m kb n0 Bd B':Nat}{pre:List z2u}{x:z2u}{y:ByteArray}{v0:Value}{dd dd':Dsk}{W w3 w4:World}(hm:m<kb)(hmS:w.heap.size+1<m)(HCH: ∀d M W W',Φ d M (w.heap.size+1) W->Chg (w.heap.size+1) W W'->Φ d M (w.heap.size+1) W')(h:SGo ex Φ ans d0 w m kb pre W)
  (hSb:Boxed W (w.heap.size+1) 47 v0)(hBk:Bd<kb\/kb+4<=Bd)(hBS:w.heap.size+1<Bd)(hDd:z0f W Bd dd)(hk3:z2r (w.heap.size+1) Bd W w3)(hp3:Φ (ans (stTo ans d0 (pre.map (·.1))) x.1).2 (61*(pre.length:Int)+61) (w.heap.size+1) w3)(hS3:Boxed w3 (w.heap.size+1) 47 (pT (some ⟨B',0,none⟩)))(hB3:B'=Bd\/W.heap.size<=B')(hD3:z0f w3 B' dd')(hy:(ans (stTo ans d0 (pre.map (·.1))) x.1).1=y)
  (hB4:Lib.BuilderAtF 27 5 w.heap.size w.heap.size (pT (some ⟨w.heap.size,0,none⟩)) (Lib.byteCells (z57 ans d0 (pre.map (·.1)))++Lib.strCells (y++⟨#[10]⟩)) w4)(hb4:Below w.heap.size w3 w4)(ho4:Lib.OthersKept 5 (some w.heap.size) w3 w4):KeepsFrom n0 W w4/\z2q w.heap.size [kb+2,kb+1,kb+3] W w4/\SGo ex Φ ans d0 w m kb (pre++[x]) w4:=by
 have hrm:=h.room;obtain⟨p0,u0,hbb⟩:=z7c h.out;have bb3:w3.heap[w.heap.size]?=some (cT #[p0,u0] 27 (0,0)):=(hk3.block _ (Array.getElem?_eq_some_iff.1 hbb).1 kO kO).trans hbb;have step: ∀(k:Nat)(o:Obj),W.heap[k]?=some o->k≠w.heap.size+1->k≠Bd->k≠w.heap.size->(∀c fz,o≠ cT c 5 fz)->w4.heap[k]?=some o:=fun k o q h1 h2 h3 h4=>ho4 k o ((hk3.block k (Array.getElem?_eq_some_iff.1 q).1 h1 h2).trans q) (fun e=>h3 (Option.some.inj e)) h4
 have tag: ∀(k:Nat)(cs:Array Value)(t:TypeId)(fz:Nat×Nat),w3.heap[k]?=some (Obj.cells cs t fz)->t≠5->t≠27->w4.heap[k]?=some (Obj.cells cs t fz):=fun k cs t fz q h1 h2=>ho4 k _ q (fun e=>by
  rw[Option.some.inj e,bb3]at q;injection q with q
  injection q with _ q _
  exact h2 q.symm) fun c f e=>by injection e with _ e _;exact h1 e
 have hS4:w4.heap[w.heap.size+1]?=w3.heap[w.heap.size+1]?:=(tag _ _ _ _ hS3 kD kD).trans (show w3.heap[w.heap.size+1]?=_ from hS3).symm;have hbel:Below w.heap.size W w4:=⟨hb4.os.trans hk3.os,hb4.tape.trans hk3.tape,hb4.output.trans hk3.output,Nat.le_trans hk3.size hb4.size,fun k hk=>(hb4.block k hk).trans (hk3.block k kO kO kO)⟩;have bx: ∀(k:Nat)(t:TypeId)(v:Value),Boxed W k t v->k≠w.heap.size+1->k≠Bd->k≠w.heap.size->t≠5->Boxed w4 k t v:=fun k t v q h1 h2 h3 h4=>step k _ q h1 h2 h3 fun c f e=>by injection e with _ e _;exact h4 e
 obtain⟨vS,hvS⟩:=h.cutS;have b1:=bx _ _ _ hvS kO kO kO kD;have b2:=bx _ _ _ h.cutP kO kO kO kD;have b3:=bx _ _ _ h.cutV kO kO kO kD;refine⟨⟨hbel.size,fun k o _ q ho=>step k o q (fun e=>?_) (fun e=>?_) (fun e=>?_) fun c f e=>?_⟩,⟨hbel,fun b hb=>?_⟩,?_⟩
 ·rw[e]at q;rw[show W.heap[w.heap.size+1]?=_ from hSb]at q;cases q;cases ho
 ·rw[e]at q;rw[show W.heap[Bd]?=_ from hDd]at q;cases q;cases ho
 ·rw[e,hbb]at q;cases q;cases ho
 ·rw[e]at ho;cases ho
 ·simp only[List.mem_cons,List.mem_nil_iff,or_false]at hb
  rcases hb with rfl|rfl|rfl
  ·exact(show w4.heap[kb+2]?=_ from b2).trans (show W.heap[kb+2]?=_ from h.cutP).symm
  ·exact(show w4.heap[kb+1]?=_ from b1).trans (show W.heap[kb+1]?=_ from hvS).symm
  ·exact(show w4.heap[kb+3]?=_ from b3).trans (show W.heap[kb+3]?=_ from h.cutV).symm
 refine⟨?_,step m _ h.map_ kO (fun e=>by have q:=h.map_;rw[e,show W.heap[Bd]?=_ from hDd]at q;cases q) kO (fun c f e=>by cases e),bx _ _ _ h.known kO kO kO kD,?_,h.bel.trans hbel,Nat.le_trans hrm hbel.size,⟨_,b1⟩,b2,b3,B',dd',tag _ _ _ _ hS3 kD kD,?_,?_,tag _ _ _ _ hD3 kD kD⟩
 ·have hq:=HCH _ _ w3 w4 hp3 ⟨hb4.size,hb4.os,hb4.tape,hb4.output,hS4,fun k cs t fz q1 q2=>tag k cs t fz q1 (by rcases q2 with rfl|rfl<;>decide) (by rcases q2 with rfl|rfl<;>decide)⟩
  rw[List.map_append,List.map_cons,List.map_nil,zK1,List.length_append]
  have e:(61*((pre.length+[x].length:Nat):Int))=61*(pre.length:Int)+61:=by
   have:[x].length=1:=rfl;rw[this];omega
  rw[e];exact hq
 ·rw[List.map_append,List.map_cons,List.map_nil,zGd,hy]
  have e:Lib.byteCells (z57 ans d0 (pre.map (·.1))++(y++zC6).data.toList)=Lib.byteCells (z57 ans d0 (pre.map (·.1)))++Lib.strCells (y++⟨#[10]⟩):=List.map_append;rw[e];exact Or.inr hB4
 ·rcases hB3 with rfl|q
  ·exact hBk
  ·exact Or.inr kO
 rcases hB3 with rfl|q<;>omega
theorem zJf{W W':World}{S B b n:Nat}{bs:List Value}{v:Value}{dd:Dsk}(h:Lib.IsBuilderF 27 5 n b bs W)(hk:z2r S B W W')(hS:Boxed W S 47 v)(hD:z0f W B dd)(hbS:b≠S)(hbB:b≠B):Lib.IsBuilderF 27 5 n b bs W':=by
 obtain⟨p,u,hbb⟩:=z7c h;refine zC1 h (hk.block b (Array.getElem?_eq_some_iff.1 hbb).1 hbS hbB) fun g cs fz q=>(hk.block g (Array.getElem?_eq_some_iff.1 q).1 (fun e=>?_) fun e=>?_).trans q
 ·rw[e]at q
  have h2:W.heap[S]?=_:=hS;rw[q]at h2;injection h2 with h2
  injection h2 with _ h3 _
  exact absurd h3 kD
 rw[e]at q;have h2:W.heap[B]?=_:=hD;rw[q]at h2;injection h2 with h2
 injection h2 with _ h3 _
 exact absurd h3 kD
theorem sgo_grow{Φ:Dsk->Int->Nat->World->Prop}{ans:Dsk->ByteArray->ByteArray×Dsk}{d0:Dsk}{w:World}{m kb:Nat}{pre:List z2u}{W W':World}{row:Option Nat}(hm:m<kb)(hk:w.heap.size+1<kb)(HCH: ∀d M W W',Φ d M (w.heap.size+1) W->Chg (w.heap.size+1) W W'->Φ d M (w.heap.size+1) W')(h:SGo ex Φ ans d0 w m kb pre W)(hg:W.grownBy W' row)(hr: ∀r,row=some r->(kb+4<=r/\ ∃o:Obj,W.heap[r]?=some o/\o.isCells=false)\/(r=kb+1/\(∃v,Boxed W (kb+1) 9 (.string v))/\ ∃v,Boxed W' (kb+1) 9 (.string v))):SGo ex Φ ans d0 w m kb pre W':=by
 have low: ∀k,k<=kb->k<W.heap.size->W'.heap[k]?=W.heap[k]?:=fun k h1 h2=>hg.block k h2 fun e=>by
  rcases hr k e.symm with⟨q,_⟩|⟨q,_⟩<;>omega
 have tag: ∀(k:Nat)(cs:Array Value)(t:TypeId)(fz:Nat×Nat),W.heap[k]?=some (Obj.cells cs t fz)->t≠9->W'.heap[k]?=some (Obj.cells cs t fz):=fun k cs t fz h1 h2=>(hg.block k (Array.getElem?_eq_some_iff.1 h1).1 fun e=>by
  rcases hr k e.symm with⟨_,o,q,q2⟩|⟨q,⟨v,q2⟩, -⟩
  ·rw[h1]at q;cases q;cases q2
  ·rw[q]at h1
   have q3:W.heap[kb+1]?=_:=q2;rw[h1]at q3;injection q3 with q3
   injection q3 with _ q4 _
   exact h2 q4).trans h1
 have hrm:=h.room;obtain⟨p,v,hbb⟩:=z7c h.out;refine⟨HCH _ _ W W' h.ses ⟨hg.size,hg.os,hg.tape,hg.output,low _ kO kO,fun k cs t fz h1 h2=>tag k cs t fz h1 (by rcases h2 with rfl|rfl<;>decide)⟩,(low m kO kO).trans h.map_,(low kb (Nat.le_refl _) kO).trans h.known,zC1 h.out (low _ kO kO) fun g cs fz q=>tag g cs _ fz q kD,?_,Nat.le_trans hrm hg.size,?_,?_,?_,?_⟩
 ·exact⟨hg.os.trans h.bel.os,hg.tape.trans h.bel.tape,hg.output.trans h.bel.output,Nat.le_trans h.bel.size hg.size,fun k hk2=>(low k kO kO).trans (h.bel.block k hk2)⟩
 ·by_cases hrow:row=some (kb+1)
  ·rcases hr _ hrow with⟨q,_⟩|⟨_,_,q⟩
   ·omega
   ·exact q
  ·obtain⟨v,hv⟩:=h.cutS
   exact⟨v,(hg.block _ hv.lt fun e=>hrow e.symm).trans hv⟩
 ·exact(hg.block _ h.cutP.lt fun e=>by rcases hr _ e.symm with⟨q,_⟩|⟨q,_⟩<;>omega).trans h.cutP
 ·exact(hg.block _ h.cutV.lt fun e=>by rcases hr _ e.symm with⟨q,_⟩|⟨q,_⟩<;>omega).trans h.cutV
 obtain⟨Bd,dd,e1,e2,e3,e4⟩:=h.desk;exact⟨Bd,dd,(low _ kO e1.lt).trans e1,e2,e3,tag Bd _ _ _ e4 kD⟩
theorem zSe(Φ:Dsk->Int->Nat->World->Prop)(ans:Dsk->ByteArray->ByteArray×Dsk)(d0:Dsk)(s:ByteArray)(hs:s.size<=3000)(w:World)(hT:Tabs ex w)(HAN:Hid (∀d(M:Int) W(t:ByteArray) m B,Φ d M (w.heap.size+1) W->0<=M->M<=200000->Below w.heap.size w W->W.heap[m]?=some (.map (z07 (w.heap.size+1) 13) 13)->Boxed W (w.heap.size+1) 47 (pT (some ⟨B,0,none⟩))->t.size<=100000->Calls tP 11 #[.string t,.map (some m)] W fun e w'=>e= rT (.string (ans d t).1)/\z2r (w.heap.size+1) B W w'/\Φ (ans d t).2 (M+61) (w.heap.size+1) w'/\ ∃B' dd,Boxed w' (w.heap.size+1) 47 (pT (some ⟨B',0,none⟩))/\(B'=B\/W.heap.size<=B')/\z0f w' B' dd))(HSZ:Hid (∀d t,(ans d t).1.size<=4000000))(HBG:Hid (∀W B,Boxed W (w.heap.size+1) 47 (pT (some ⟨B,0,none⟩))->w.heap.size+1<B->z0f W B (z3o (fun i=>[10,20,30].getD i 0) 3)->Φ d0 0 (w.heap.size+1) W))(HCH:Hid (∀d M W W',Φ d M (w.heap.size+1) W->Chg (w.heap.size+1) W W'->Φ d M (w.heap.size+1) W')):zR 4 #[.string s] w (.string ⟨(z57 ans d0 (z29 (z49 s))).toArray⟩):=by
 refine(callsIn_wide (n:=8)).1 ?_;have hf1:Fence.wide.fn 8:=trivial;have hf2:Fence.wide.fn 9:=trivial;have hf3:Fence.wide.fn 10:=trivial;have q1: ¬((20000:Int)<(s.size:Int)):=kO;have hz1:(w.alloc (cT #[pT none,.slice none 0 0] 27)).heap.size=w.heap.size+1:=by simp
 have hB1:=q3b (w.alloc (cT #[pT none,.slice none 0 0] 27));refine callsIn_of_wp_marks Tryz.func4 rfl trivial ?_ rfl;simp only[Tryz.ntmps4,List.size_toArray,List.length_cons,List.length_nil,Nat.reduceAdd,Nat.reduceSub,Array.replicate_succ,Array.replicate_zero,List.push_toArray,List.append_toArray,List.nil_append,List.cons_append]
 gi_wp2_with (first
  |(gi_at_call 8;refine(callsIn_wide.2 hB1).mono ?_;rintro e w1 ⟨B,rfl,hb1,hS1,hSB,hD1⟩)
  |(gi_at_call 9;refine(callsIn_wide.2 (q1z _ _)).mono ?_;rintro e w2 ⟨rfl,hb2,hm2⟩)
  |(gi_at_call 10;refine(callsIn_wide.2 (q6i _ kO _)).mono ?_;rintro e w3 ⟨rfl,rfl⟩))
 have hmk:w1.heap.size<w2.heap.size:=(Array.getElem?_eq_some_iff.1 hm2).1;have hk1:w.heap.size+1<w1.heap.size:=by have:=hS1.lt;rw[hz1]at this;exact this
 rw[hz1]at hS1 hSB;obtain⟨W0,hW0⟩: ∃W0,((((w2.alloc (cT #[.map (some w1.heap.size)] 35)).alloc (cT #[.string (z49 s)] 9)).alloc (cT #[.string ⟨#[10]⟩] 9)).alloc (cT #[A C 0] 3))=W0:=⟨_,rfl⟩;have hz0:W0.heap.size=w2.heap.size+4:=by rw[<-hW0];simp
 have hb0:Below w2.heap.size w2 W0:=by rw[<-hW0];exact((((bF _ _).alloc (Nat.le_refl _) _).alloc kS _).alloc kZ _).alloc kZ _
 have bK:Boxed W0 w2.heap.size 35 (.map (some w1.heap.size)):=by rw[<-hW0];exact(((Boxed.new w2 _ _).alloc _).alloc _).alloc _
 have bS:Boxed W0 (w2.heap.size+1) 9 (.string (z49 s)):=by
  rw[<-hW0];have h:=Boxed.new (w2.alloc (cT #[.map (some w1.heap.size)] 35)) 9 (.string (z49 s));simp only[World.size_alloc]at h;exact(h.alloc _).alloc _
 have bP:Boxed W0 (w2.heap.size+2) 9 (.string ⟨#[10]⟩):=by
  rw[<-hW0];have h:=Boxed.new ((w2.alloc (cT #[.map (some w1.heap.size)] 35)).alloc (cT #[.string (z49 s)] 9)) 9 (.string ⟨#[10]⟩);simp only[World.size_alloc]at h;exact h.alloc _
 have bV:Boxed W0 (w2.heap.size+3) 3 (A C 0):=by
  rw[<-hW0];have h:=Boxed.new (((w2.alloc (cT #[.map (some w1.heap.size)] 35)).alloc (cT #[.string (z49 s)] 9)).alloc (cT #[.string ⟨#[10]⟩] 9)) 3 (A C 0);simp only[World.size_alloc]at h;exact h
 have hbw1:Below w.heap.size w w1:=((bF w.heap.size w).alloc (Nat.le_refl _) (cT #[pT none,.slice none 0 0] 27)).trans (hb1.mono kS);have hb20:Below w1.heap.size w1 W0:=hb2.trans (hb0.mono hb2.size)
 have hG0:SGo ex Φ ans d0 w w1.heap.size w2.heap.size [] W0:=by
  refine⟨HBG.out W0 B ((hb20.block _ hS1.lt).trans hS1) hSB (FnAt.later hD1 hb20),(hb0.block _ hmk).trans hm2,bK,Or.inl ⟨Nat.le_refl _,.slice none 0 0,?_,World.ownsRowF_nil _ _ _ _,by simp[Value.ownBlock]⟩,hbw1.trans (hb20.mono hbw1.size),by omega,⟨_,bS⟩,bP,bV,B,_,(hb20.block _ hS1.lt).trans hS1,Or.inl ?_,hSB,FnAt.later hD1 hb20⟩;rotate_left
  ·have:=hD1.lt;omega
  exact(hb20.block _ kO).trans ((hb1.block _ kS).trans (heap_alloc_new w (cT #[pT none,.slice none 0 0] 27)))
 have hts:(z49 s).size<=100000:=Nat.le_trans (zJq s) kO;rw[hW0];clear hW0;simp only[Nat.add_assoc,Nat.reduceAdd]
 have hseq:zPk (8-1) tP 95 #[pT (some ⟨w2.heap.size+2,0,none⟩),pT (some ⟨w2.heap.size+1,0,none⟩),pT (some ⟨w2.heap.size+3,0,none⟩)] (fun x:z2u=>#[Value.string x.1]) (z2q w.heap.size [w2.heap.size+2,w2.heap.size+1,w2.heap.size+3])
   (fun ys=>ys.map (·.1)=z29 (z49 s)) (fun pre=>pre.map (·.1)<+:z29 (z49 s)) (z29 (z49 s)).length (w2.heap.size+1) W0:=fun l J Jx W hW hJ _ hY h0=>
  zVy (8-1) kO l (w2.heap.size+2) (w2.heap.size+1) (w2.heap.size+3) w.heap.size kO kO (z49 s) hts J Jx W hJ hY ((hW.block _ kO).trans bP) ((hW.block _ kO).trans bS) ((hW.block _ kO).trans bV) h0
 refine zG6 kO rfl (enters_of Tryz.func95 kR rfl) hseq kO z2q.trans (z2q.put kO kZ) (fun _=>rfl) (SGo ex Φ ans d0 w w1.heap.size w2.heap.size) (fun _ _ _=>False)
  (fun pre W W' row hG hg hr=>sgo_grow hmk kO HCH.out hG hg fun r e=>Or.inl ⟨by have:=(hr r e).1;omega,(hr r e).2⟩)
  (fun pre W W' row hG hg hr=>sgo_grow hmk kO HCH.out hG hg fun r e=>by
   rcases hr with hr|⟨hr,hv⟩
   ·rw[hr]at e;cases e
   ·rw[hr]at e;exact Or.inr ⟨(Option.some.inj e).symm,hv⟩)
  (fun _ _ _ _ _ h _ _=>h) (fun _ _ _ _ _ h _ _=>h) hG0
  (fun x=>{tmps:=#[.string s,undef,.string ⟨#[]⟩,pT (some ⟨w.heap.size,0,none⟩),pT (some ⟨w2.heap.size,0,none⟩),.string x.1,.string s,A C (s.size:Int),.bool false,undef,undef,undef,undef,pT (some ⟨w.heap.size+1,0,none⟩),.map (some w1.heap.size),.string s,.func (.func 95) #[] #[pT (some ⟨w2.heap.size+2,0,none⟩),pT (some ⟨w2.heap.size+1,0,none⟩),pT (some ⟨w2.heap.size+3,0,none⟩)],.string x.1,undef,undef,undef,undef,undef,undef],defers:=[]}) ?assign ?body ?done ?stop
 case assign=>
  intro l x W K hK;gi_wp2
  exact hK
 case body=>
  rintro l pre x W hG hlt;obtain⟨Bd,dd,hSb,hBk,hBS,hDd⟩:=hG.desk;have hpl:=zBt (z49 s).size (z49 s);have htz:=zJq s;have hlt':pre.length<(z1y (z49 s).size (z49 s)).length:=hlt;have hrm:=hG.room;have HA:Hid (Calls tP 11 #[.string x.1,.map (some w1.heap.size)] W fun e w'=>e= rT (.string (ans (stTo ans d0 (pre.map (·.1))) x.1).1)/\z2r (w.heap.size+1) Bd W w'/\Φ (ans (stTo ans d0 (pre.map (·.1))) x.1).2 (61*(pre.length:Int)+61) (w.heap.size+1) w'/\ ∃B' dd,Boxed w' (w.heap.size+1) 47 (pT (some ⟨B',0,none⟩))/\(B'=Bd\/W.heap.size<=B')/\z0f w' B' dd):=HAN.out _ _ W x.1 _ Bd hG.ses kO kO hG.bel hG.map_ hSb x.2;have hsz:=HSZ.out (stTo ans d0 (pre.map (·.1))) x.1;have hol:=zQ9 HSZ.out d0 (pre.map (·.1));rw[List.length_map]at hol;obtain⟨y,hy⟩: ∃y,(ans (stTo ans d0 (pre.map (·.1))) x.1).1=y:=⟨_,rfl⟩;have HY:Hid ((ans (stTo ans d0 (pre.map (·.1))) x.1).1=y):=hy;rw[hy]at HA hsz;clear hy;have cK:=hG.known.cell;have hfa:Fence.wide.fn 11:=trivial;have hfb:Fence.wide.fn 5:=trivial;have q9: ¬9223372036854775807<y.size+1:=kO
  have HO:Hid (∀w3,z2r (w.heap.size+1) Bd W w3->Calls tP 5 #[pT (some ⟨w.heap.size,0,none⟩),.string (y++⟨#[10]⟩)] w3 fun e w'=>e= rT (.tuple #[A C (y++⟨#[10]⟩:ByteArray).size,.nilIface])/\(Lib.BuilderAtF 27 5 w.heap.size w.heap.size (pT (some ⟨w.heap.size,0,none⟩)) (Lib.byteCells (z57 ans d0 (pre.map (·.1)))++Lib.strCells (y++⟨#[10]⟩)) w'/\Below w.heap.size w3 w'/\Lib.OthersKept 5 (some w.heap.size) w3 w')):=fun w3 hk3=>by
   refine bwrite w.heap.size w.heap.size _ _ w3 (zJf hG.out hk3 hSb hDd kO kO) ?_ (Nat.le_trans hG.bel.size hk3.size);rw[Lib.byteCells,List.length_map,ByteArray.size_append];show _+(y.size+1)<=_;omega
  gi_wp2_with (first
   |(gi_at_call 11;refine(CallsIn.inRound l (callsIn_wide.2 HA.out)).mono ?_;rintro e w3 ⟨rfl,hk3,hp3,B',dd',hS3,hB3,hD3⟩)
   |(gi_at_call 5;refine(CallsIn.inRound l (callsIn_wide.2 (HO.out w3 hk3))).mono ?_;rintro e w4 ⟨rfl,hB4,hb4,ho4⟩))
  exact sgo_next hmk kO HCH.out hG hSb hBk hBS hDd hk3 hp3 hS3 hB3 hD3 HY.out hB4 hb4 ho4
 case done=>
  rintro D ys W hD hS hG hK;have hfs:Fence.wide.fn 7:=trivial;have HO:Hid (Calls tP 7 #[pT (some ⟨w.heap.size,0,none⟩)] W fun e w'=>e= rT (.string ⟨(z57 ans d0 (ys.map (·.1))).toArray⟩)/\(Lib.IsBuilderF 27 5 w.heap.size w.heap.size (Lib.byteCells (z57 ans d0 (ys.map (·.1)))) w'/\Below w.heap.size W w'/\Lib.OthersKept 5 (some w.heap.size) W w')):=Tryz.Builder_String_any_k w.heap.size w.heap.size _ W hG.out hG.bel.size;rw[hS]at HO;obtain⟨l,hl⟩: ∃l,z57 ans d0 (z29 (z49 s))=l:=⟨_,rfl⟩;have HL:Hid (z57 ans d0 (z29 (z49 s))=l):=hl;rw[hl]at HO;clear hl;gi_wp2_with (gi_at_call 7;refine(callsIn_wide.2 HO.out).mono ?_;rintro e w5 ⟨rfl, -,hb5,ho5⟩)
  have hK5:w5.heap[D]?=some (.deferred (some [])):=ho5 D _ hK (fun e=>by have:=Option.some.inj e;omega) (fun c f e=>by cases e);refine⟨by simp,.inl ⟨_,_,rfl,run_takeDeferred hK5,?_⟩⟩;rw[HL.out];exact⟨_,results_tmp rfl _ _ _,rfl,(hG.bel.trans hb5).trans (belowK_b (w:=w) (Nat.le_refl _) w5 D _ _ kO hK5 rfl rfl)⟩
 case stop=>
  rintro D c pre W hD hSp h;exact h.elim
end
section
open Go.ChangeShapes Go.WideShapes Go.ChangeAt Go.RowKit Go.Shelf
variable {ex:Ext}
theorem PgOk.chg{S B:Nat}{W W':World}{p:Pg}(h:PgOk W B p)(c:Chg S W W'):PgOk W' B p:=by
 obtain⟨bk,cap,e,h1,h2,h3⟩:=h.lies;obtain⟨cs,fz,z⟩:=h.tag bk _ _ e;have hb:W'.heap[bk]?=W.heap[bk]?:=(c.block bk cs _ fz z (Or.inr rfl)).trans z.symm;exact⟨⟨bk,cap,e,Nat.lt_of_lt_of_le h1 c.size,h2,z3x h3 hb⟩,h.some,h.few,h.right,h.nums,h.tab,h.tag.block e hb⟩
theorem DOk.chg{S B:Nat}{W W':World}{d:Dsk}{M:Int}(h:DOk W B d M)(c:Chg S W W'):DOk W' B d M:=
 ⟨c.block B _ _ _ h.at_ (Or.inl rfl),fun k hk p hp=>(h.ps k hk p hp).chg c,h.few,h.evs,h.told,h.may0,h.may1,h.left0,h.left1,h.last0,h.last1,h.ran0,h.ran1⟩
def z4k(d:Dsk)(M:Int)(S:Nat)(W:World):Prop:= ∃B dd,Boxed W S 47 (pT (some ⟨B,0,none⟩))/\S<B/\DOk W B dd M/\DkEq d dd/\(∀k,k<3->(dd.g k).left<=0)/\ ∀k,k<3-> ∀p,p∈(dd.g k).ps->In64 p.id
theorem zW3{d:Dsk}{M:Int}{S:Nat}{W W':World}(h:z4k d M S W)(c:Chg S W W'):z4k d M S W':=by
 obtain⟨B,dd,h1,h2,h3,h4,h5⟩:=h;exact⟨B,dd,c.ses.trans h1,h2,h3.chg c,h4,h5⟩
theorem q1n{W:World}{B:Nat}(h:z0f W B (z3o (fun i=>[10,20,30].getD i 0) 3)):DOk W B (z3o (fun i=>[10,20,30].getD i 0) 3) 0:=by
 refine⟨h,fun k hk p hp=>?_,fun k hk=>?_,fun k hk=>?_,fun k hk T hT=>?_,fun k hk=>?_,fun k hk=>?_,fun k hk=>?_,fun k hk=>?_,fun k hk=>?_,fun k hk=>?_,Int.le_refl _,Int.le_refl _⟩
 ·cases hp
 ·exact Nat.zero_le _
 ·exact Nat.zero_le _
 ·cases hT
 ·rcases(by omega:k=0\/k=1\/k=2)with rfl|rfl|rfl<;>decide
 ·rcases(by omega:k=0\/k=1\/k=2)with rfl|rfl|rfl<;>decide
 ·exact(by decide:(-1601:Int)<=0)
 ·exact(by decide:(0:Int)<=2000)
 ·exact Int.le_refl _
 exact Int.le_refl _
theorem zW5{W:World}{S B:Nat}(h1:Boxed W S 47 (pT (some ⟨B,0,none⟩)))(h2:S<B)(h:z0f W B (z3o (fun i=>[10,20,30].getD i 0) 3)):z4k (z3o (fun i=>[10,20,30].getD i 0) 3) 0 S W:=
 ⟨B,_,h1,h2,q1n h,DkEq.refl _,fun k hk=>Int.le_refl _,fun k hk p hp=>by cases hp⟩
theorem zW4{d:Dsk}{M:Int}{S r:Nat}{W W':World}{v:Value}(h:z4k d M S W)(hr:Boxed W r 9 v)(hk:Kept r W W'):z4k d M S W':=by
 have one: ∀(k:Nat)(cs:Array Value)(t:TypeId)(fz:Nat×Nat),W.heap[k]?=some (Obj.cells cs t fz)->t≠9->W'.heap[k]?=some (Obj.cells cs t fz):=fun k cs t fz q ht=>by
  refine(hk.block k (Array.getElem?_eq_some_iff.1 q).1 fun e=>?_).trans q;have e:=Option.some.inj e;rw[e,show W.heap[r]?=_ from hr]at q;injection q with q
  injection q with _ q _
  exact ht q.symm
 have hS:=h;obtain⟨B,dd,h1, -⟩:=hS;exact zW3 h ⟨hk.size,hk.os,hk.tape,hk.output,(one S _ _ _ h1 kD).trans (show W.heap[S]?=_ from h1).symm,fun k cs t fz q ht=>one k cs t fz q (by rcases ht with rfl|rfl<;>decide)⟩
theorem DOk.more{B:Nat}{W:World}{d:Dsk}{M M':Int}(h:DOk W B d M)(hM:M<=M'):DOk W B d M':=
 ⟨h.at_,h.ps,h.few,h.evs,h.told,h.may0,h.may1,h.left0,h.left1,h.last0,fun k hk=>Int.le_trans (h.last1 k hk) hM,h.ran0,Int.le_trans h.ran1 hM⟩
theorem q15{d:Dsk}{M M':Int}{S:Nat}{W:World}(h:z4k d M S W)(hM:M<=M'):z4k d M' S W:=by
 obtain⟨B,dd,h1,h2,h3,h4,h5⟩:=h;exact⟨B,dd,h1,h2,h3.more hM,h4,h5⟩
theorem z5o{d:Dsk}{M:Int}{S:Nat}{W W':World}(h:z4k d M S W)(hb:Below W.heap.size W W'):z4k d M S W':=by
 obtain⟨B,dd,h1,h2,h3,h4,h5⟩:=h;exact⟨B,dd,(hb.block S h1.lt).trans h1,h2,h3.later hb,h4,h5⟩
theorem z8b{d:Dsk}{M:Int}{S B:Nat}{W:World}(h:z4k d M S W)(hS:Boxed W S 47 (pT (some ⟨B,0,none⟩))):S<B/\ ∃dd,DOk W B dd M/\DkEq d dd/\(∀k,k<3->(dd.g k).left<=0)/\ ∀k,k<3-> ∀p,p∈(dd.g k).ps->In64 p.id:=by
 obtain⟨B',dd,h1,h2,h3⟩:=h
 have e:Value.pointer (some ⟨B',0,none⟩)= pT (some ⟨B,0,none⟩):=by
  have a:=h1.cell;rw[hS.cell]at a;exact(Option.some.inj a).symm
 injection e with e
 injection e with e
 injection e with e
 subst e;exact⟨h2,dd,h3⟩
def z6f(d:Dsk)(M:Int)(S B n:Nat)(W:World):Prop:=z4k d M S W/\ ∃B' dd,Boxed W S 47 (pT (some ⟨B',0,none⟩))/\(B'=B\/n<=B')/\z0f W B' dd
theorem zCc{d:Dsk}{M:Int}{S B B' n:Nat}{W:World}(h:z4k d M S W)(hS:Boxed W S 47 (pT (some ⟨B',0,none⟩)))(hB:B'=B\/n<=B'):z6f d M S B n W:=by
 obtain⟨-,dd,h1, -⟩:=z8b h hS;exact⟨h,B',dd,hS,hB,h1.at_⟩
theorem z4q{d:Dsk}{M M':Int}{S B n:Nat}{W W':World}(h:z4k d M S W)(hS:Boxed W S 47 (pT (some ⟨B,0,none⟩)))(hb:Below W.heap.size W W')(hM:M<=M'):z6f d M' S B n W':=
 zCc (q15 (z5o h hb) hM) ((hb.block S hS.lt).trans hS) (Or.inl rfl)
theorem z71{d:Dsk}{M:Int}{S B n r:Nat}{W W':World}{v:Value}(h:z6f d M S B n W)(hr:Boxed W r 9 v)(hk:Kept r W W'):z6f d M S B n W':=by
 obtain⟨h1,B',dd,h2,h3,h4⟩:=h
 have hS:Boxed W' S 47 (pT (some ⟨B',0,none⟩)):=by
  refine(hk.block S h2.lt fun e=>?_).trans h2;have e:=Option.some.inj e;have q:=show W.heap[S]?=_ from h2;rw[e,show W.heap[r]?=_ from hr]at q;injection q with q
  injection q with _ q _
  exact absurd q kD
 exact zCc (zW4 h1 hr hk) hS h3
theorem zNb(ans:Dsk->ByteArray->ByteArray×Dsk)(s:ByteArray)(hs:s.size<=3000)(w:World)(hT:Tabs ex w)(HAN:Hid (∀d(M:Int) W(t:ByteArray) m B,z4k d M (w.heap.size+1) W->0<=M->M<=200000->Below w.heap.size w W->W.heap[m]?=some (.map (z07 (w.heap.size+1) 13) 13)->Boxed W (w.heap.size+1) 47 (pT (some ⟨B,0,none⟩))->t.size<=100000->Calls tP 11 #[.string t,.map (some m)] W fun e w'=>e= rT (.string (ans d t).1)/\z2r (w.heap.size+1) B W w'/\z4k (ans d t).2 (M+61) (w.heap.size+1) w'/\ ∃B' dd,Boxed w' (w.heap.size+1) 47 (pT (some ⟨B',0,none⟩))/\(B'=B\/W.heap.size<=B')/\z0f w' B' dd))(HSZ:Hid (∀d t,(ans d t).1.size<=4000000)):zR 4 #[.string s] w (.string ⟨(z57 ans (z3o (fun i=>[10,20,30].getD i 0) 3) (z29 (z49 s))).toArray⟩):=
 zSe z4k ans _ s hs w hT HAN HSZ (fun W B h1 h2 h=>zW5 h1 h2 h) (fun d M W W' h c=>zW3 h c)
end
end Go.Proofs.YtkdflpplamebkaaGreatDoor
