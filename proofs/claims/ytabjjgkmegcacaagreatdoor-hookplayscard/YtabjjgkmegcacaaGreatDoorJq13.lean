/-
A part of the proof of HookPlays; its card says what is proved.
-/
import Derived.Test.YtabjjgkmegcacaaGreatDoorJq12
set_option maxHeartbeats 40000000
open Go.Value renaming int → A
open Go.IntKind renaming i64 → G
open Go.RowKit.Below renaming alloc → bA, setCell → bS, drew → bD, refl → bF
set_option maxRecDepth 1000000
set_option linter.defProp false
set_option linter.unusedVariables false
set_option linter.unusedSimpArgs false
open Go.Ending renaming returned → rT
open Go.Value renaming pointer → pT
open Go.Obj renaming cells → cT
open Go.Proofs.Tryz renaming prog → tP
open List renaming length_cons → lQ
namespace Go.Proofs.YtabjjgkmegcacaaGreatDoor
open Go.ChangeShapes Go.WideShapes Go.ChangeAt Go.RowKit
section
attribute [local simp] z0p z0j z04
theorem z01.numV{w:World}{B d:Nat}{m:Dox}(h:z01 w B m)(hd:d<27)(n:Int):z01 (((w.setCell ⟨B,d*3,none⟩ (.int .u8 110)).setCell ⟨B,d*3+1,none⟩ (A G n)).setCell ⟨B,d*3+2,none⟩ (A G 0)) B (m.putV d ⟨1,n,0⟩):=h.put3 hd 1 n 0
theorem zLd(B d s pc:Nat)(c o n:Int)(m:Dox)(hd:d<11)(hs:s<11)(hpc:pc<=200)(xk xn xc:Int)(HX:Hid (m.reg d=⟨xk,xn,xc⟩))(e28:(c==28)=false)(e14:(c==14)=false)(hc1:24<c)(e25:(c==25)=false)(e26:(c==26)=true)(HPOK:Hid (Val.Ok ⟨xk,xn,xc⟩))(HO64:Hid (In64 o)):(∀(t E:Int)(HW:Hid (z46 ⟨xk,xn,xc⟩ o=(t,E)))(hE:(E !=0)=true)(w:World)(hM:z01 w B m),zR 53 #[pT (some ⟨B,0,none⟩),.agg #[A G c,A G d,A G s,.bool false,A G o,A G n],A G pc] w (.tuple #[A G ((pc:Int)+1),.bool false,A G E]))/\(∀(t:Int)(HW:Hid (z46 ⟨xk,xn,xc⟩ o=(t,0)))(k2:(kd xk==116)=true)(w:World)(hM:z01 w B m),zR 53 #[pT (some ⟨B,0,none⟩),.agg #[A G c,A G d,A G s,.bool false,A G o,A G n],A G pc] w (.tuple #[A G ((pc:Int)+1),.bool false,A G 6])):=by
 refine⟨?_,?_⟩;intro t E HW hE w hM;rotate_left;intro t HW k2 w hM;rotate_left
 all_goals
  have hB:=hM.lt;have hBa:B<w.heap.size+1:=kO;have hBb:B<w.heap.size+1+1:=kO;obtain⟨h0,h1,h2⟩:=hM.reg3 hd;rw[HX.out]at h0 h1 h2;have hd0:(0:Int)<=(d:Int):=kO;have hd1:(d:Int)<27:=kO;have hs0:(0:Int)<=(s:Int):=kO;have hs1:(s:Int)<27:=kO;have hp0:(0:Int)<=(pc:Int):=kO;have hp1:(pc:Int)<=200:=kO;have HQ:Hid ((decide (15<=c)&&decide (c<=24))=false):=by show(decide (15<=c)&&decide (c<=24))=false;simp;omega
  clear hc1
 all_goals
  go_enter Tryz.func53,Tryz.ntmps53;go_wp2_with fail;go_region
  all_goals go_wp2_with(first|(go_at_call 56;refine(z0e c _).mono ?_;rintro e w1 ⟨rfl,rfl⟩;rw[HQ.out])|(go_at_call 69;refine(z3i ⟨xk,xn,xc⟩ o HPOK.out HO64.out _).mono ?_;rintro e w2 ⟨rfl,hb2⟩;rw[HW.out];have hM2:z01 w2 B m:=z01.later (by repeat' first|with_reducible assumption|with_reducible(first|refine z01.drew ?_|refine z01.off ?_ _ _ ?_|refine z01.alloc ?_ _)|((try dsimp only);omega)|(simp;omega)) hb2;have hbw:Below w.heap.size w w2:=kT hb2;have hB2:=hM2.lt;have v6:=z0b hb2 w.heap.size;(try simp[go_sem]at v6);have v7:=z0b hb2 (w.heap.size+1);(try simp[go_sem]at v7);have v8:=z0b hb2 (w.heap.size+1+1);(try simp[go_sem]at v8);skip)|fail)
  all_goals go_ret3
  all_goals exact⟨rfl,kB⟩
def zJn:=fun B d s pc c o n m hd hs hpc xk xn xc HX e28 e14 hc1 e25 e26 HPOK HO64=>(@zLd B d s pc c o n m hd hs hpc xk xn xc HX e28 e14 hc1 e25 e26 HPOK HO64).1
def zEv:=fun B d s pc c o n m hd hs hpc xk xn xc HX e28 e14 hc1 e25 e26 HPOK HO64=>(@zLd B d s pc c o n m hd hs hpc xk xn xc HX e28 e14 hc1 e25 e26 HPOK HO64).2
theorem zEx(B d s pc:Nat)(c o n:Int)(m:Dox)(hd:d<11)(hs:s<11)(hpc:pc<=200)(xk xn xc:Int)(HX:Hid (m.reg d=⟨xk,xn,xc⟩))(e28:(c==28)=false)(e14:(c==14)=false)(hc1:24<c)(e25:(c==25)=false)(e26:(c==26)=true)(HPOK:Hid (Val.Ok ⟨xk,xn,xc⟩))(HO64:Hid (In64 o))(u:Nat)(q:Int)(HW:Hid (z46 ⟨xk,xn,xc⟩ o=(q,0)))(hq:27+q=(u:Int))(hq0: -16<=q)(hq1:q<= -1)(k2:(kd xk==116)=false)(k3:(kd xk==102)=true)(w:World)(hM:z01 w B m):Calls tP 53 #[pT (some ⟨B,0,none⟩),.agg #[A G c,A G d,A G s,.bool false,A G o,A G n],A G pc] w fun e w'=>e= rT (.tuple #[A G ((pc:Int)+1),.bool false,A G 0])/\Kept B w w'/\z01 w' B (m.putV u ⟨1,n,0⟩):=by
 have hB:=hM.lt;have hBa:B<w.heap.size+1:=kO;have hBb:B<w.heap.size+1+1:=kO;obtain⟨h0,h1,h2⟩:=hM.reg3 hd;rw[HX.out]at h0 h1 h2;have hd0:(0:Int)<=(d:Int):=kO;have hd1:(d:Int)<27:=kO;have hs0:(0:Int)<=(s:Int):=kO;have hs1:(s:Int)<27:=kO;have hp0:(0:Int)<=(pc:Int):=kO;have hp1:(pc:Int)<=200:=kO;have HQ:Hid ((decide (15<=c)&&decide (c<=24))=false):=by show(decide (15<=c)&&decide (c<=24))=false;simp;omega
 clear hc1;have hu0:(0:Int)<=(u:Int):=kO;have hu1:(u:Int)<27:=kO;go_enter Tryz.func53,Tryz.ntmps53;go_wp2_with fail;go_region
 all_goals go_wp2_with(first|(go_at_call 56;refine(z0e c _).mono ?_;rintro e w1 ⟨rfl,rfl⟩;rw[HQ.out])|(go_at_call 69;refine(z3i ⟨xk,xn,xc⟩ o HPOK.out HO64.out _).mono ?_;rintro e w2 ⟨rfl,hb2⟩;rw[HW.out];have hM2:z01 w2 B m:=z01.later (by repeat' first|with_reducible assumption|with_reducible(first|refine z01.drew ?_|refine z01.off ?_ _ _ ?_|refine z01.alloc ?_ _)|((try dsimp only);omega)|(simp;omega)) hb2;have hbw:Below w.heap.size w w2:=kT hb2;have hB2:=hM2.lt;have v6:=z0b hb2 w.heap.size;(try simp[go_sem]at v6);have v7:=z0b hb2 (w.heap.size+1);(try simp[go_sem]at v7);have v8:=z0b hb2 (w.heap.size+1+1);(try simp[go_sem]at v8);obtain⟨q0,q1,q2⟩:=hM2.v (d:=u) kO;have f0:=hM2.frozen (u*3);have f1:=hM2.frozen (u*3+1);have f2:=hM2.frozen (u*3+2);have hu27:u<27:=kO)|fail)
 all_goals go_region
 all_goals go_wp2
 all_goals go_ret3
 all_goals have HK:Kept B w w2:=z09 hbw B
 all_goals exact⟨rfl,kQ,(by repeat' first|with_reducible assumption|with_reducible(first|refine z01.drew ?_|refine z01.numV ?_ hu27 _|refine z01.off ?_ _ _ ?_|refine z01.alloc ?_ _)|((try dsimp only);omega)|(simp;omega))⟩
theorem zEz(B d s pc:Nat)(c o n:Int)(m:Dox)(hd:d<11)(hs:s<11)(hpc:pc<=200)(xk xn:Int)(xcn:Nat)(HX:Hid (m.reg d=⟨xk,xn,(xcn:Int)⟩))(e28:(c==28)=false)(e14:(c==14)=false)(hc1:24<c)(e25:(c==25)=false)(e26:(c==26)=true)(HPOK:Hid (Val.Ok ⟨xk,xn,(xcn:Int)⟩))(HO64:Hid (In64 o))(t:Nat)(ht:t<4)(hxcn:xcn<4)(HW:Hid (z46 ⟨xk,xn,(xcn:Int)⟩ o=(((t:Nat):Int),0)))(k2:(kd xk==116)=false)(k3:(kd xk==102)=false)(w:World)(hM:z01 w B m):Calls tP 53 #[pT (some ⟨B,0,none⟩),.agg #[A G c,A G d,A G s,.bool false,A G o,A G n],A G pc] w fun e w'=>e= rT (.tuple #[A G ((pc:Int)+1),.bool false,A G 0])/\Kept B w w'/\z01 w' B (m.putCel (xcn*4+t) n):=by
 have hB:=hM.lt;have hBa:B<w.heap.size+1:=kO;have hBb:B<w.heap.size+1+1:=kO;obtain⟨h0,h1,h2⟩:=hM.reg3 hd;rw[HX.out]at h0 h1 h2;have hd0:(0:Int)<=(d:Int):=kO;have hd1:(d:Int)<27:=kO;have hs0:(0:Int)<=(s:Int):=kO;have hs1:(s:Int)<27:=kO;have hp0:(0:Int)<=(pc:Int):=kO;have hp1:(pc:Int)<=200:=kO;have HQ:Hid ((decide (15<=c)&&decide (c<=24))=false):=by show(decide (15<=c)&&decide (c<=24))=false;simp;omega
 clear hc1;have ht0:(0:Int)<=(t:Int):=kO;have ht1:(t:Int)<4:=kO;have hc0:(0:Int)<=(xcn:Int):=kO;have hc1:(xcn:Int)<4:=kO;go_enter Tryz.func53,Tryz.ntmps53;go_wp2_with fail;go_region
 all_goals go_wp2_with(first|(go_at_call 56;refine(z0e c _).mono ?_;rintro e w1 ⟨rfl,rfl⟩;rw[HQ.out])|(go_at_call 69;refine(z3i ⟨xk,xn,(xcn:Int)⟩ o HPOK.out HO64.out _).mono ?_;rintro e w2 ⟨rfl,hb2⟩;rw[HW.out];have hM2:z01 w2 B m:=z01.later (by repeat' first|with_reducible assumption|with_reducible(first|refine z01.drew ?_|refine z01.off ?_ _ _ ?_|refine z01.alloc ?_ _)|((try dsimp only);omega)|(simp;omega)) hb2;have hbw:Below w.heap.size w w2:=kT hb2;have hB2:=hM2.lt;have v6:=z0b hb2 w.heap.size;(try simp[go_sem]at v6);have v7:=z0b hb2 (w.heap.size+1);(try simp[go_sem]at v7);have v8:=z0b hb2 (w.heap.size+1+1);(try simp[go_sem]at v8);have q0:w2.cell? ⟨B,90+xcn*4+t,none⟩=some (A G (m.cel (xcn*4+t))):=(by rw[Nat.add_assoc];exact hM2.cel (d:=xcn*4+t) kO);have f0:=hM2.frozen (90+xcn*4+t);have hct:xcn*4+t<16:=kO)|fail)
 all_goals go_region
 all_goals go_wp2
 all_goals go_ret3
 all_goals have HK:Kept B w w2:=z09 hbw B
 all_goals rw[Nat.add_assoc 90 (xcn*4) t]
 all_goals exact⟨rfl,kQ,(by repeat' first|with_reducible assumption|with_reducible(first|refine z01.drew ?_|refine z01.cel1 ?_ hct _|refine z01.off ?_ _ _ ?_|refine z01.alloc ?_ _)|((try dsimp only);omega)|(simp;omega))⟩
theorem zEw(B d s pc:Nat)(c o n:Int)(m:Dox)(hd:d<11)(hs:s<11)(hpc:pc<=200)(xk xn xc:Int)(HX:Hid (m.reg d=⟨xk,xn,xc⟩))(yk yn yc:Int)(HY:Hid (m.reg s=⟨yk,yn,yc⟩))(e28:(c==28)=false)(e14:(c==14)=false)(hc1:24<c)(e25:(c==25)=false)(e26:(c==26)=true)(HPOK:Hid (Val.Ok ⟨xk,xn,xc⟩))(HO64:Hid (In64 o))(u:Nat)(q:Int)(HW:Hid (z46 ⟨xk,xn,xc⟩ o=(q,0)))(hq:27+q=(u:Int))(hq0: -16<=q)(hq1:q<= -1)(k2:(kd xk==116)=false)(y0:(kd yk==0)=false)(k3:(kd xk==102)=true)(w:World)(hM:z01 w B m):Calls tP 53 #[pT (some ⟨B,0,none⟩),.agg #[A G c,A G d,A G s,.bool true,A G o,A G n],A G pc] w fun e w'=>e= rT (.tuple #[A G ((pc:Int)+1),.bool false,A G 0])/\Kept B w w'/\z01 w' B (m.putV u ⟨yk,yn,yc⟩):=by
 have hB:=hM.lt;have hBa:B<w.heap.size+1:=kO;have hBb:B<w.heap.size+1+1:=kO;obtain⟨h0,h1,h2⟩:=hM.reg3 hd;rw[HX.out]at h0 h1 h2;obtain⟨j0,j1,j2⟩:=hM.reg3 hs;rw[HY.out]at j0 j1 j2;have hd0:(0:Int)<=(d:Int):=kO;have hd1:(d:Int)<27:=kO;have hs0:(0:Int)<=(s:Int):=kO;have hs1:(s:Int)<27:=kO;have hp0:(0:Int)<=(pc:Int):=kO;have hp1:(pc:Int)<=200:=kO;have HQ:Hid ((decide (15<=c)&&decide (c<=24))=false):=by show(decide (15<=c)&&decide (c<=24))=false;simp;omega
 clear hc1;have hu0:(0:Int)<=(u:Int):=kO;have hu1:(u:Int)<27:=kO;go_enter Tryz.func53,Tryz.ntmps53;go_wp2_with fail;go_region
 all_goals go_wp2_with fail
 all_goals go_region
 all_goals go_wp2_with(first|(go_at_call 56;refine(z0e c _).mono ?_;rintro e w1 ⟨rfl,rfl⟩;rw[HQ.out])|(go_at_call 69;refine(z3i ⟨xk,xn,xc⟩ o HPOK.out HO64.out _).mono ?_;rintro e w2 ⟨rfl,hb2⟩;rw[HW.out];have hM2:z01 w2 B m:=z01.later (by repeat' first|with_reducible assumption|with_reducible(first|refine z01.drew ?_|refine z01.off ?_ _ _ ?_|refine z01.alloc ?_ _)|((try dsimp only);omega)|(simp;omega)) hb2;have hbw:Below w.heap.size w w2:=kT hb2;have hB2:=hM2.lt;have v6:=z0b hb2 w.heap.size;(try simp[go_sem]at v6);have v7:=z0b hb2 (w.heap.size+1);(try simp[go_sem]at v7);have v8:=z0b hb2 (w.heap.size+1+1);(try simp[go_sem]at v8);obtain⟨q0,q1,q2⟩:=hM2.v (d:=u) kO;have f0:=hM2.frozen (u*3);have f1:=hM2.frozen (u*3+1);have f2:=hM2.frozen (u*3+2);have hu27:u<27:=kO)|fail)
 all_goals go_region
 all_goals go_wp2
 all_goals go_ret3
 all_goals have HK:Kept B w w2:=z09 hbw B
 all_goals exact⟨rfl,kQ,(by repeat' first|with_reducible assumption|with_reducible(first|refine z01.drew ?_|refine z01.put3 ?_ hu27 _ _ _|refine z01.off ?_ _ _ ?_|refine z01.alloc ?_ _)|((try dsimp only);omega)|(simp;omega))⟩
theorem z9u(B d s pc:Nat)(c o n:Int)(m:Dox)(hd:d<11)(hs:s<11)(hpc:pc<=200)(xk xn xc:Int)(HX:Hid (m.reg d=⟨xk,xn,xc⟩))(yk yn yc:Int)(HY:Hid (m.reg s=⟨yk,yn,yc⟩))(e28:(c==28)=false)(e14:(c==14)=false)(hc1:24<c)(e25:(c==25)=false)(e26:(c==26)=true)(HPOK:Hid (Val.Ok ⟨xk,xn,xc⟩))(HO64:Hid (In64 o)):(∀(t E:Int)(HW:Hid (z46 ⟨xk,xn,xc⟩ o=(t,E)))(hE:(E !=0)=true)(w:World)(hM:z01 w B m),zR 53 #[pT (some ⟨B,0,none⟩),.agg #[A G c,A G d,A G s,.bool true,A G o,A G n],A G pc] w (.tuple #[A G ((pc:Int)+1),.bool false,A G E]))/\(∀(t:Int)(HW:Hid (z46 ⟨xk,xn,xc⟩ o=(t,0)))(k2:(kd xk==116)=false)(y0:(kd yk==0)=false)(k3:(kd xk==102)=false)(y1:(kd yk !=110)=true)(w:World)(hM:z01 w B m),zR 53 #[pT (some ⟨B,0,none⟩),.agg #[A G c,A G d,A G s,.bool true,A G o,A G n],A G pc] w (.tuple #[A G ((pc:Int)+1),.bool false,A G 1]))/\(∀(t:Int)(HW:Hid (z46 ⟨xk,xn,xc⟩ o=(t,0)))(k2:(kd xk==116)=false)(y0:(kd yk==0)=true)(w:World)(hM:z01 w B m),zR 53 #[pT (some ⟨B,0,none⟩),.agg #[A G c,A G d,A G s,.bool true,A G o,A G n],A G pc] w (.tuple #[A G ((pc:Int)+1),.bool false,A G 8]))/\(∀(t:Int)(HW:Hid (z46 ⟨xk,xn,xc⟩ o=(t,0)))(k2:(kd xk==116)=true)(w:World)(hM:z01 w B m),zR 53 #[pT (some ⟨B,0,none⟩),.agg #[A G c,A G d,A G s,.bool true,A G o,A G n],A G pc] w (.tuple #[A G ((pc:Int)+1),.bool false,A G 6])):=by
 refine⟨?_,?_,?_,?_⟩;intro t E HW hE w hM;rotate_left;intro t HW k2 y0 k3 y1 w hM;rotate_left;intro t HW k2 y0 w hM;rotate_left;intro t HW k2 w hM;rotate_left
 all_goals
  have hB:=hM.lt;have hBa:B<w.heap.size+1:=kO;have hBb:B<w.heap.size+1+1:=kO;obtain⟨h0,h1,h2⟩:=hM.reg3 hd;rw[HX.out]at h0 h1 h2;obtain⟨j0,j1,j2⟩:=hM.reg3 hs;rw[HY.out]at j0 j1 j2;have hd0:(0:Int)<=(d:Int):=kO;have hd1:(d:Int)<27:=kO;have hs0:(0:Int)<=(s:Int):=kO;have hs1:(s:Int)<27:=kO;have hp0:(0:Int)<=(pc:Int):=kO;have hp1:(pc:Int)<=200:=kO;have HQ:Hid ((decide (15<=c)&&decide (c<=24))=false):=by show(decide (15<=c)&&decide (c<=24))=false;simp;omega
  clear hc1
 all_goals
  go_enter Tryz.func53,Tryz.ntmps53;go_wp2_with fail;go_region
  all_goals go_wp2_with fail
  all_goals go_region
  all_goals go_wp2_with(first|(go_at_call 56;refine(z0e c _).mono ?_;rintro e w1 ⟨rfl,rfl⟩;rw[HQ.out])|(go_at_call 69;refine(z3i ⟨xk,xn,xc⟩ o HPOK.out HO64.out _).mono ?_;rintro e w2 ⟨rfl,hb2⟩;rw[HW.out];have hM2:z01 w2 B m:=z01.later (by repeat' first|with_reducible assumption|with_reducible(first|refine z01.drew ?_|refine z01.off ?_ _ _ ?_|refine z01.alloc ?_ _)|((try dsimp only);omega)|(simp;omega)) hb2;have hbw:Below w.heap.size w w2:=kT hb2;have hB2:=hM2.lt;have v6:=z0b hb2 w.heap.size;(try simp[go_sem]at v6);have v7:=z0b hb2 (w.heap.size+1);(try simp[go_sem]at v7);have v8:=z0b hb2 (w.heap.size+1+1);(try simp[go_sem]at v8);skip)|fail)
  all_goals go_ret3
  all_goals exact⟨rfl,kB⟩
def zJm:=fun B d s pc c o n m hd hs hpc xk xn xc HX yk yn yc HY e28 e14 hc1 e25 e26 HPOK HO64=>(@z9u B d s pc c o n m hd hs hpc xk xn xc HX yk yn yc HY e28 e14 hc1 e25 e26 HPOK HO64).1
def zH8:=fun B d s pc c o n m hd hs hpc xk xn xc HX yk yn yc HY e28 e14 hc1 e25 e26 HPOK HO64=>(@z9u B d s pc c o n m hd hs hpc xk xn xc HX yk yn yc HY e28 e14 hc1 e25 e26 HPOK HO64).2.1
def z8a:=fun B d s pc c o n m hd hs hpc xk xn xc HX yk yn yc HY e28 e14 hc1 e25 e26 HPOK HO64=>(@z9u B d s pc c o n m hd hs hpc xk xn xc HX yk yn yc HY e28 e14 hc1 e25 e26 HPOK HO64).2.2.1
def zEu:=fun B d s pc c o n m hd hs hpc xk xn xc HX yk yn yc HY e28 e14 hc1 e25 e26 HPOK HO64=>(@z9u B d s pc c o n m hd hs hpc xk xn xc HX yk yn yc HY e28 e14 hc1 e25 e26 HPOK HO64).2.2.2
theorem zEy(B d s pc:Nat)(c o n:Int)(m:Dox)(hd:d<11)(hs:s<11)(hpc:pc<=200)(xk xn:Int)(xcn:Nat)(HX:Hid (m.reg d=⟨xk,xn,(xcn:Int)⟩))(yk yn yc:Int)(HY:Hid (m.reg s=⟨yk,yn,yc⟩))(e28:(c==28)=false)(e14:(c==14)=false)(hc1:24<c)(e25:(c==25)=false)(e26:(c==26)=true)(HPOK:Hid (Val.Ok ⟨xk,xn,(xcn:Int)⟩))(HO64:Hid (In64 o))(t:Nat)(ht:t<4)(hxcn:xcn<4)(HW:Hid (z46 ⟨xk,xn,(xcn:Int)⟩ o=(((t:Nat):Int),0)))(k2:(kd xk==116)=false)(y0:(kd yk==0)=false)(k3:(kd xk==102)=false)(y1:(kd yk !=110)=false)(w:World)(hM:z01 w B m):Calls tP 53 #[pT (some ⟨B,0,none⟩),.agg #[A G c,A G d,A G s,.bool true,A G o,A G n],A G pc] w fun e w'=>e= rT (.tuple #[A G ((pc:Int)+1),.bool false,A G 0])/\Kept B w w'/\z01 w' B (m.putCel (xcn*4+t) yn):=by
 have hB:=hM.lt;have hBa:B<w.heap.size+1:=kO;have hBb:B<w.heap.size+1+1:=kO;obtain⟨h0,h1,h2⟩:=hM.reg3 hd;rw[HX.out]at h0 h1 h2;obtain⟨j0,j1,j2⟩:=hM.reg3 hs;rw[HY.out]at j0 j1 j2;have hd0:(0:Int)<=(d:Int):=kO;have hd1:(d:Int)<27:=kO;have hs0:(0:Int)<=(s:Int):=kO;have hs1:(s:Int)<27:=kO;have hp0:(0:Int)<=(pc:Int):=kO;have hp1:(pc:Int)<=200:=kO;have HQ:Hid ((decide (15<=c)&&decide (c<=24))=false):=by show(decide (15<=c)&&decide (c<=24))=false;simp;omega
 clear hc1;have ht0:(0:Int)<=(t:Int):=kO;have ht1:(t:Int)<4:=kO;have hc0:(0:Int)<=(xcn:Int):=kO;have hc1:(xcn:Int)<4:=kO;go_enter Tryz.func53,Tryz.ntmps53;go_wp2_with fail;go_region
 all_goals go_wp2_with fail
 all_goals go_region
 all_goals go_wp2_with(first|(go_at_call 56;refine(z0e c _).mono ?_;rintro e w1 ⟨rfl,rfl⟩;rw[HQ.out])|(go_at_call 69;refine(z3i ⟨xk,xn,(xcn:Int)⟩ o HPOK.out HO64.out _).mono ?_;rintro e w2 ⟨rfl,hb2⟩;rw[HW.out];have hM2:z01 w2 B m:=z01.later (by repeat' first|with_reducible assumption|with_reducible(first|refine z01.drew ?_|refine z01.off ?_ _ _ ?_|refine z01.alloc ?_ _)|((try dsimp only);omega)|(simp;omega)) hb2;have hbw:Below w.heap.size w w2:=kT hb2;have hB2:=hM2.lt;have v6:=z0b hb2 w.heap.size;(try simp[go_sem]at v6);have v7:=z0b hb2 (w.heap.size+1);(try simp[go_sem]at v7);have v8:=z0b hb2 (w.heap.size+1+1);(try simp[go_sem]at v8);have q0:w2.cell? ⟨B,90+xcn*4+t,none⟩=some (A G (m.cel (xcn*4+t))):=(by rw[Nat.add_assoc];exact hM2.cel (d:=xcn*4+t) kO);have f0:=hM2.frozen (90+xcn*4+t);have hct:xcn*4+t<16:=kO)|fail)
 all_goals go_region
 all_goals go_wp2
 all_goals go_ret3
 all_goals have HK:Kept B w w2:=z09 hbw B
 all_goals rw[Nat.add_assoc 90 (xcn*4) t]
 all_goals exact⟨rfl,kQ,(by repeat' first|with_reducible assumption|with_reducible(first|refine z01.drew ?_|refine z01.cel1 ?_ hct _|refine z01.off ?_ _ _ ?_|refine z01.alloc ?_ _)|((try dsimp only);omega)|(simp;omega))⟩
def DRes(B:Nat)(w w':World)(m:Dox)(E:Int)(a:Abs):Prop:=
 Below B w w'/\ ∃m' L',z01 w' B m'/\z0u w' B m'.out L'/\m'.steps=m.steps/\(E=0->m'.abs L'=a)
theorem DRes.of_kept{B:Nat}{w w':World}{m m':Dox}{L:List Int}{E:Int}{a:Abs}(hM:z01 w B m)(hO:z0u w B m.out L)(hk:Kept B w w')(hm:z01 w' B m')(ho:m'.out=m.out)(h2:m'.steps=m.steps)(ha:E=0->m'.abs L=a):DRes B w w' m E a:=
 ⟨z1a hk hM.lt,m',L,hm,by rw[ho];exact hO.kept hk,h2,ha⟩
theorem DRes.of_below{B:Nat}{w w':World}{m:Dox}{L:List Int}{E:Int}{a:Abs}(hM:z01 w B m)(hO:z0u w B m.out L)(hb:Below w.heap.size w w')(ha:E=0->m.abs L=a):DRes B w w' m E a:=
 DRes.of_kept hM hO (z09 hb B) (hM.later hb) rfl rfl ha
theorem zOb(B d s pc:Nat)(c o n:Int)(m:Dox)(hd:d<11)(hs:s<11)(hpc:pc<=200)(xk xn xc:Int)(HX:Hid (m.reg d=⟨xk,xn,xc⟩))(e28:(c==28)=false)(e14:(c==14)=false)(hc1:24<c)(e25:(c==25)=false)(e26:(c==26)=false)(e27:(c==27)=true)(L:List Int)(E:Int)(a:Abs)(HC:Hid (∀W:World,z01 W B m->z0u W B m.out L->Calls tP 70 #[pT (some ⟨B,0,none⟩),A G n] W fun e w'=>e= rT (A G E)/\DRes B W w' m E a))(w:World)(hM:z01 w B m)(HO:Hid (z0u w B m.out L)):Calls tP 53 #[pT (some ⟨B,0,none⟩),.agg #[A G c,A G d,A G s,.bool false,A G o,A G n],A G pc] w fun e w'=>e= rT (.tuple #[A G ((pc:Int)+1),.bool false,A G E])/\DRes B w w' m E a:=by
 have hB:=hM.lt;have hBa:B<w.heap.size+1:=kO;have hBb:B<w.heap.size+1+1:=kO;obtain⟨h0,h1,h2⟩:=hM.reg3 hd;rw[HX.out]at h0 h1 h2;have hd0:(0:Int)<=(d:Int):=kO;have hd1:(d:Int)<27:=kO;have hs0:(0:Int)<=(s:Int):=kO;have hs1:(s:Int)<27:=kO;have hp0:(0:Int)<=(pc:Int):=kO;have hp1:(pc:Int)<=200:=kO;have HQ:Hid ((decide (15<=c)&&decide (c<=24))=false):=by show(decide (15<=c)&&decide (c<=24))=false;simp;omega
 clear hc1;have _hx:=HX.out;go_enter Tryz.func53,Tryz.ntmps53;go_wp2_with fail;go_region
 all_goals go_wp2_with(first
  |(go_at_call 56;refine(z0e c _).mono ?_;rintro e w1 ⟨rfl,rfl⟩;rw[HQ.out])
  |(go_at_call 70;refine(HC.out _ (by repeat' first|with_reducible assumption|with_reducible(first|refine z01.drew ?_|refine z01.off ?_ _ _ ?_|refine z01.alloc ?_ _)|((try dsimp only);omega)|(simp;omega)) (HO.out.kept kQ)).mono ?_;rintro e w2 ⟨rfl,hr2⟩;have HR2:Hid (DRes B _ w2 m E a):=hr2;clear hr2)
  |fail)
 all_goals go_ret3
 all_goals exact⟨rfl,(z1a kQ hB).trans HR2.out.1,HR2.out.2⟩
theorem zC7(B d s pc:Nat)(c o n:Int)(m:Dox)(hd:d<11)(hs:s<11)(hpc:pc<=200)(xk xn xc:Int)(HX:Hid (m.reg d=⟨xk,xn,xc⟩))(e28:(c==28)=false)(e14:(c==14)=false)(hc1:c<=13)(e25:(c==25)=false)(e26:(c==26)=false)(e27:(c==27)=false)(L:List Int)(E:Int)(a:Abs)(HC:Hid (∀W:World,z01 W B m->z0u W B m.out L->Calls tP 71 #[pT (some ⟨B,0,none⟩),A G c,pT (some ⟨B,d*3,none⟩),.agg #[.int .u8 110,A G n,A G 0]] W fun e w'=>e= rT (A G E)/\DRes B W w' m E a))(w:World)(hM:z01 w B m)(HO:Hid (z0u w B m.out L)):Calls tP 53 #[pT (some ⟨B,0,none⟩),.agg #[A G c,A G d,A G s,.bool false,A G o,A G n],A G pc] w fun e w'=>e= rT (.tuple #[A G ((pc:Int)+1),.bool false,A G E])/\DRes B w w' m E a:=by
 have hB:=hM.lt;have hBa:B<w.heap.size+1:=kO;have hBb:B<w.heap.size+1+1:=kO;obtain⟨h0,h1,h2⟩:=hM.reg3 hd;rw[HX.out]at h0 h1 h2;have hd0:(0:Int)<=(d:Int):=kO;have hd1:(d:Int)<27:=kO;have hs0:(0:Int)<=(s:Int):=kO;have hs1:(s:Int)<27:=kO;have hp0:(0:Int)<=(pc:Int):=kO;have hp1:(pc:Int)<=200:=kO;have HQ:Hid ((decide (15<=c)&&decide (c<=24))=false):=by show(decide (15<=c)&&decide (c<=24))=false;simp;omega
 clear hc1;have _hx:=HX.out;go_enter Tryz.func53,Tryz.ntmps53;go_wp2_with fail;go_region
 all_goals go_wp2_with(first
  |(go_at_call 56;refine(z0e c _).mono ?_;rintro e w1 ⟨rfl,rfl⟩;rw[HQ.out])
  |(go_at_call 71;refine(HC.out _ (by repeat' first|with_reducible assumption|with_reducible(first|refine z01.drew ?_|refine z01.off ?_ _ _ ?_|refine z01.alloc ?_ _)|((try dsimp only);omega)|(simp;omega)) (HO.out.kept kQ)).mono ?_;rintro e w2 ⟨rfl,hr2⟩;have HR2:Hid (DRes B _ w2 m E a):=hr2;clear hr2)
  |fail)
 all_goals go_ret3
 all_goals exact⟨rfl,(z1a kQ hB).trans HR2.out.1,HR2.out.2⟩
theorem zC6(B d s pc:Nat)(c o n:Int)(m:Dox)(hd:d<11)(hs:s<11)(hpc:pc<=200)(xk xn xc:Int)(HX:Hid (m.reg d=⟨xk,xn,xc⟩))(yk yn yc:Int)(HY:Hid (m.reg s=⟨yk,yn,yc⟩))(e28:(c==28)=false)(e14:(c==14)=false)(hc1:c<=13)(e25:(c==25)=false)(e26:(c==26)=false)(e27:(c==27)=false)(L:List Int)(E:Int)(a:Abs)(HC:Hid (∀W:World,z01 W B m->z0u W B m.out L->Calls tP 71 #[pT (some ⟨B,0,none⟩),A G c,pT (some ⟨B,d*3,none⟩),.agg #[.int .u8 (kd yk),A G yn,A G yc]] W fun e w'=>e= rT (A G E)/\DRes B W w' m E a))(w:World)(hM:z01 w B m)(HO:Hid (z0u w B m.out L)):Calls tP 53 #[pT (some ⟨B,0,none⟩),.agg #[A G c,A G d,A G s,.bool true,A G o,A G n],A G pc] w fun e w'=>e= rT (.tuple #[A G ((pc:Int)+1),.bool false,A G E])/\DRes B w w' m E a:=by
 have hB:=hM.lt;have hBa:B<w.heap.size+1:=kO;have hBb:B<w.heap.size+1+1:=kO;obtain⟨h0,h1,h2⟩:=hM.reg3 hd;rw[HX.out]at h0 h1 h2;obtain⟨j0,j1,j2⟩:=hM.reg3 hs;rw[HY.out]at j0 j1 j2;have hd0:(0:Int)<=(d:Int):=kO;have hd1:(d:Int)<27:=kO;have hs0:(0:Int)<=(s:Int):=kO;have hs1:(s:Int)<27:=kO;have hp0:(0:Int)<=(pc:Int):=kO;have hp1:(pc:Int)<=200:=kO;have HQ:Hid ((decide (15<=c)&&decide (c<=24))=false):=by show(decide (15<=c)&&decide (c<=24))=false;simp;omega
 clear hc1;have _hx:=HX.out;go_enter Tryz.func53,Tryz.ntmps53;go_wp2_with fail;go_region
 all_goals go_wp2_with fail
 all_goals go_region
 all_goals go_wp2_with(first
  |(go_at_call 56;refine(z0e c _).mono ?_;rintro e w1 ⟨rfl,rfl⟩;rw[HQ.out])
  |(go_at_call 71;refine(HC.out _ (by repeat' first|with_reducible assumption|with_reducible(first|refine z01.drew ?_|refine z01.off ?_ _ _ ?_|refine z01.alloc ?_ _)|((try dsimp only);omega)|(simp;omega)) (HO.out.kept kQ)).mono ?_;rintro e w2 ⟨rfl,hr2⟩;have HR2:Hid (DRes B _ w2 m E a):=hr2;clear hr2)
  |fail)
 all_goals go_ret3
 all_goals exact⟨rfl,(z1a kQ hB).trans HR2.out.1,HR2.out.2⟩
end
section
theorem kd_t(k:Int):(kd k==116)=(k==2):=by
 unfold kd
 by_cases h0:k=0
 ·rw[if_pos h0,h0];rfl
 by_cases h1:k=1
 ·rw[if_neg h0,if_pos h1,h1];rfl
 by_cases h2:k=2
 ·rw[if_neg h0,if_neg h1,if_pos h2,h2];rfl
 have:(k==2)=false:=by simpa using h2
 rw[if_neg h0,if_neg h1,if_neg h2,this];split<;>rfl
theorem kd_f(k:Int):(kd k==102)=(k==3):=by
 unfold kd
 by_cases h0:k=0
 ·rw[if_pos h0,h0];rfl
 by_cases h1:k=1
 ·rw[if_neg h0,if_pos h1,h1];rfl
 by_cases h2:k=2
 ·rw[if_neg h0,if_neg h1,if_pos h2,h2];rfl
 by_cases h3:k=3
 ·rw[if_neg h0,if_neg h1,if_neg h2,if_pos h3,h3];rfl
 have:(k==3)=false:=by simpa using h3
 rw[if_neg h0,if_neg h1,if_neg h2,if_neg h3,this];rfl
theorem kd_c{k:Int}(h:k=4):(kd k==99)=true:=by rw[h];rfl
theorem kd_c3{k:Int}(h:k=3):(kd k==99)=false:=by rw[h];rfl
theorem zDh{a b:Int}{t:Bool}(h:(a==b)=t):(a !=b)=!t:=by rw[<-h];rfl
theorem z7p(m:Dox)(d:Nat)(x y:Val):(m.putReg d x).putReg d y=m.putReg d y:=by
 unfold Dox.putReg;congr 1;funext i;show(if i=d then y else if i=d then x else m.reg i)=if i=d then y else m.reg i;split<;>rfl
theorem zNr(m:Dox)(x:Val)(L:List Int):((m.putReg 0 x).loseTo 6).abs L=((m.abs L).lose).putReg 0 x:=by
 unfold Dox.loseTo Dox.putReg Dox.abs Abs.lose Abs.putReg;congr 1;funext i;show(if 1<=i/\i<6 then z2s else if i=0 then x else m.reg i)=if i=0 then x else if 1<=i/\i<=5 then z2s else m.reg i
 by_cases h:i=0
 ·rw[if_neg kO,if_pos h,if_pos h]
 rw[if_neg h,if_neg h]
 by_cases h1:1<=i/\i<6
 ·rw[if_pos h1,if_pos kO]
 rw[if_neg h1,if_neg kO]
section
variable {B d s pc:Nat} {c o n:Int} {r:Bool} {m:Dox} {L:List Int} {w:World}
theorem zRw(hn:n=1\/n=2\/n=3)(hM:z01 w B m)(hO:z0u w B m.out L):
  Calls tP 70 #[pT (some ⟨B,0,none⟩),A G n] w fun e w'=>e= rT (A G (z4u (m.abs L) n).1)/\DRes B w w' m (z4u (m.abs L) n).1 (z4u (m.abs L) n).2:=by
 rcases h1:m.reg 1 with⟨fk,fn,fc⟩
 have h1':(m.abs L).reg 1=⟨fk,fn,fc⟩:=h1;unfold z4u;rw[h1']
 have hwant: ∀{P:Prop},(z23 ⟨fk,fn,fc⟩=8->fk=0->P)->(z23 ⟨fk,fn,fc⟩=0->fk≠0->fk=1->P)->(z23 ⟨fk,fn,fc⟩=1->fk≠0->fk≠1->P)->P:=by
  intro P a b c
  by_cases h0:fk=0
  ·exact a (if_pos h0) h0
  by_cases h1:fk=1
  ·exact b (by unfold z23;rw[if_neg h0,if_pos h1]) h0 h1
  ·exact c (by unfold z23;rw[if_neg h0,if_neg h1]) h0 h1
 rcases hn with rfl|rfl|rfl
 ·refine hwant (fun hw h0=>?_) (fun hw h0 h1k=>?_) (fun hw h0 h1k=>?_)
  ·rw[if_pos ⟨by decide,by rw[hw];decide⟩,hw]
   exact(zJt B m L fk fn fc h1 (by rw[kd_0];simpa using h0) w hM hO).mono fun e w' ⟨he,hb⟩=>⟨he,DRes.of_below hM hO hb fun h=>absurd h kS⟩
  ·rw[if_neg (by simp[hw]),if_pos rfl]
   have x0:(kd fk==0)=false:=by rw[kd_0];simpa using h0
   have x1:(kd fk !=110)=false:=by rw[zDh (kd_n fk)];simpa using h1k
   unfold z6o
   by_cases hl:fn<0
   ·rw[if_pos (Or.inl hl)]
    exact(zRv B m L fk fn fc h1 x0 x1 (by simpa using hl) w hM hO).mono fun e w' ⟨he,hb,hm,ho⟩=>⟨he,hb,_,L,hm,ho,rfl,fun _=>zNr m _ L⟩
   by_cases hh:4<=fn
   ·rw[if_pos (Or.inr hh)]
    exact(zOj B m L fk fn fc h1 x0 x1 (by simpa using hl) (by simpa using hh) w hM hO).mono fun e w' ⟨he,hb,hm,ho⟩=>⟨he,hb,_,L,hm,ho,rfl,fun _=>zNr m _ L⟩
   ·rw[if_neg (show¬(fn<0\/4<=fn)by omega)]
    exact(zJu B m L fk fn fc h1 x0 x1 (by simpa using hl) (by simpa using hh) w hM hO).mono fun e w' ⟨he,hb,hm,ho⟩=>⟨he,hb,_,L,hm,ho,rfl,fun _=>by rw[z7p];exact zNr m _ L⟩
  ·rw[if_pos ⟨by decide,by rw[hw];decide⟩,hw]
   exact(zOn B m L fk fn fc h1 (by rw[kd_0];simpa using h0) (by rw[zDh (kd_n fk)];simpa using h1k) w hM hO).mono fun e w' ⟨he,hb⟩=>⟨he,DRes.of_below hM hO hb fun h=>absurd h kS⟩
 ·rw[if_neg kS,if_neg kD,if_pos rfl]
  exact(zOi B m L fk fn fc h1 w hM hO).mono fun e w' ⟨he,hb,hm,ho⟩=>⟨he,hb,_,L,hm,ho,rfl,fun _=>by rw[z7p];exact zNr m _ L⟩
 refine hwant (fun hw h0=>?_) (fun hw h0 h1k=>?_) (fun hw h0 h1k=>?_)
 ·rw[if_pos ⟨by decide,by rw[hw];decide⟩,hw]
  exact(zJs B m L fk fn fc h1 (by rw[kd_0];simpa using h0) w hM hO).mono fun e w' ⟨he,hb⟩=>⟨he,DRes.of_below hM hO hb fun h=>absurd h kS⟩
 ·rw[if_neg (by simp[hw]),if_neg kD,if_neg kD]
  have x0:(kd fk==0)=false:=by rw[kd_0];simpa using h0
  have x1:(kd fk !=110)=false:=by rw[zDh (kd_n fk)];simpa using h1k
  by_cases hL:L.length<50
  ·exact(zOl B m L fk fn fc h1 x0 x1 hL w hM hO).mono fun e w' ⟨he,hb,v',hm,ho⟩=>⟨he,hb,_,L++[fn],hm,ho,rfl,fun _=>by
    have e1:=zNr (m.setOut v') ⟨1,0,0⟩ (L++[fn]);show(((m.setOut v').putReg 0 ⟨1,0,0⟩).loseTo 6).abs (L++[fn])=_;rw[e1];unfold Abs.give;rw[show((m.abs L).lose).out=L from rfl,if_pos hL];rfl⟩
  ·exact(zOk B m L fk fn fc h1 x0 x1 kO w hM hO).mono fun e w' ⟨he,hb,hm,ho⟩=>⟨he,hb,_,L,hm,ho,rfl,fun _=>by
    rw[zNr];unfold Abs.give;rw[show((m.abs L).lose).out=L from rfl,if_neg hL];rfl⟩
 rw[if_pos ⟨by decide,by rw[hw];decide⟩,hw];exact(zOm B m L fk fn fc h1 (by rw[kd_0];simpa using h0) (by rw[zDh (kd_n fk)];simpa using h1k) w hM hO).mono fun e w' ⟨he,hb⟩=>⟨he,DRes.of_below hM hO hb fun h=>absurd h kS⟩
theorem zBi(hd:d<11)(y:Val)(hok:(m.abs L).Ok)(hy:y.Ok)(_:1<=c/\c<=13)(hM:z01 w B m)(hO:z0u w B m.out L):
  Calls tP 71 #[pT (some ⟨B,0,none⟩),A G c,pT (some ⟨B,d*3,none⟩),.agg #[.int .u8 (kd y.k),A G y.n,A G y.c]] w fun e w'=>e= rT (A G (z2i c (m.reg d) y).2)/\DRes B w w' m (z2i c (m.reg d) y).2 ((m.abs L).putReg d (z2i c (m.reg d) y).1):=by
 have hx:(m.reg d).Ok:=hok.reg d hd;rcases h1:m.reg d with⟨xk,xn,xc⟩
 rw[h1]at hx;obtain⟨yk,yn,yc⟩:=y;have hd27:d<27:=kO;have hv:m.v d=⟨xk,xn,xc⟩:=(m.v_reg hd).trans h1;have px:In64 xn:=hx.n;have py:In64 yn:=hy.n;have fin: ∀{E:Ending}{w':World}{z:Val},E= rT (A G 0)/\Kept B w w'/\z01 w' B (m.putV d z)->E= rT (A G 0)/\DRes B w w' m 0 ((m.abs L).putReg d z):=fun{E w' z} ⟨he,hk,hm⟩=>⟨he,DRes.of_kept (m':=m.putReg d z) hM hO hk ((m.putV_reg hd z)▸hm) rfl rfl fun _=>rfl⟩;have err: ∀{E:Ending}{w':World}{e:Int}{a:Abs},e≠0->E= rT (A G e)/\Below w.heap.size w w'->E= rT (A G e)/\DRes B w w' m e a:=fun h0 ⟨he,hb⟩=>⟨he,DRes.of_below hM hO hb fun h=>absurd h h0⟩;unfold z2i;show Calls tP _ #[_,_,_,.agg #[.int .u8 (kd yk),A G yn,A G yc]] w _
 by_cases h0:yk=0
 ·rw[if_pos (Or.inl h0)]
  exact(zOp B d c xk xn xc yk yn yc m hd27 hv (by rw[kd_0];simpa using h0) w hM).mono fun e w' h=>err kD h
 have y0:(kd yk==0)=false:=by rw[kd_0];simpa using h0
 by_cases h2:c=1
 ·rw[if_neg (by simp[h0,h2]),if_pos h2]
  by_cases hx0:xk=0
  ·exact(zK7 B d c xk xn xc yk yn yc m hd27 hv y0 (by rw[kd_0];simpa using hx0) (by simp[h2]) (by simpa using h2) w hM).mono fun e w' h=>fin h
  ·exact(zK6 B d c xk xn xc yk yn yc m hd27 hv y0 (by rw[kd_0];simpa using hx0) (by simpa using h2) w hM).mono fun e w' h=>fin h
 by_cases hx0:xk=0
 ·rw[if_pos (Or.inr ⟨hx0,h2⟩)]
  exact(zOo B d c xk xn xc yk yn yc m hd27 hv y0 (by rw[kd_0];simpa using hx0) (by simpa using h2) w hM).mono fun e w' h=>err kD h
 have x0:(kd xk==0)=false:=by rw[kd_0];simpa using hx0
 have c1:(c==1)=false:=by simpa using h2
 rw[if_neg (by simp[h0,hx0]),if_neg h2]
 by_cases h3:yk=1
 ·have y1:(kd yk==110)=true:=by rw[kd_n];simpa using h3
  by_cases h4:xk=1
  ·rw[if_pos ⟨h3,Or.inl h4⟩]
   exact(zK5 B d c xk xn xc yk yn yc m hd27 hv y0 x0 c1 (by rw[kd_n];simpa using h4) y1 px.1 px.2 py.1 py.2 w hM).mono fun e w' h=>fin h
  have x1:(kd xk==110)=false:=by rw[kd_n];simpa using h4
  by_cases h5:c=2
  ·rw[if_pos ⟨h3,Or.inr (Or.inl h5)⟩,h5,z79, <-h5]
   exact(zK4 B d c xk xn xc yk yn yc m hd27 hv y0 x0 c1 x1 y1 (by simpa using h5) w hM).mono fun e w' h=>fin h
  by_cases h6:c=3
  ·rw[if_pos ⟨h3,Or.inr (Or.inr h6)⟩,h6,zBg, <-h6]
   exact(zK3 B d c xk xn xc yk yn yc m hd27 hv y0 x0 c1 x1 y1 (by simpa using h5) (by simpa using h6) w hM).mono fun e w' h=>fin h
  ·rw[if_neg (by simp[h4,h5,h6]),if_neg (by simp[h4])]
   exact(zK8 B d c xk xn xc yk yn yc m hd27 hv y0 x0 c1 x1 y1 (by simpa using h5) (by simpa using h6) w hM).mono fun e w' h=>err kD h
 have y1:(kd yk==110)=false:=by rw[kd_n];simpa using h3
 rw[if_neg (by simp[h3])]
 by_cases h4:xk=1
 ·have x1:(kd xk==110)=true:=by rw[kd_n];simpa using h4
  by_cases h5:c=2
  ·rw[if_pos ⟨h4,h5⟩,h5,z79, <-h5,Int.add_comm xn yn]
   exact(zKc B d c xk xn xc yk yn yc m hd27 hv y0 x0 c1 x1 y1 (by simpa using h5) w hM).mono fun e w' h=>fin h
  ·rw[if_neg (by simp[h5])]
   exact(zKb B d c xk xn xc yk yn yc m hd27 hv y0 x0 c1 x1 y1 (by simpa using h5) w hM).mono fun e w' h=>err kD h
 have x1:(kd xk==110)=false:=by rw[kd_n];simpa using h4
 rw[if_neg (by simp[h4])]
 by_cases h5:c=2
 ·exact(zKa B d c xk xn xc yk yn yc m hd27 hv y0 x0 c1 x1 y1 (by simpa using h5) w hM).mono fun e w' h=>err kD h
 exact(zK9 B d c xk xn xc yk yn yc m hd27 hv y0 x0 c1 x1 y1 (by simpa using h5) w hM).mono fun e w' h=>err kD h
end
end
section
theorem zDm{p:Val}{o t E:Int}(h:z0x p o=(t,E))(hE:E≠0):z46 p o=(0,E):=by unfold z46;rw[h];exact if_pos hE
theorem z4j{p:Val}{o t:Int}(h:z0x p o=(t,0))(hk:p.k≠3):z46 p o=(t,0):=by unfold z46;rw[h,if_neg kS,if_neg hk]
theorem z4w{p:Val}{o t:Int}(h:z0x p o=(t,0))(hk:p.k=3):z46 p o=(t-16,0):=by unfold z46;rw[h,if_neg kS,if_pos hk]
section
variable {B d s pc:Nat} {c o n:Int} {r:Bool} {m:Dox} {L:List Int} {w:World}
theorem zVp(hd:d<11)(hs:s<11)(hpc:pc<=200)(hc1:15<=c)(hc2:c<=24)(o0:0<=o)(o1:o<=200)(hM:z01 w B m):
  zR 53 #[pT (some ⟨B,0,none⟩),.agg #[A G c,A G d,A G s,.bool r,A G o,A G n],A G pc] w (.tuple #[A G ((pc:Int)+1+(askF c (m.reg d) (if r then m.reg s else numF n) r o n).1),.bool false,A G (askF c (m.reg d) (if r then m.reg s else numF n) r o n).2]):=by
 have e28:(c==28)=false:=kZ;have e14:(c==14)=false:=kZ;rcases h1:m.reg d with⟨xk,xn,xc⟩
 cases r with
 |false=>
  show Calls tP _ _ w fun e w'=>e= rT (.tuple #[A G ((pc:Int)+1+(askF c ⟨xk,xn,xc⟩ ⟨1,n,0⟩ false o n).1),.bool false,A G (askF c ⟨xk,xn,xc⟩ ⟨1,n,0⟩ false o n).2])/\Below w.heap.size w w'
  by_cases h0:xk=0
  ·rw[zSd h0]
   exact(zVr B d s pc c o n m hd hs hpc xk xn xc h1 e28 e14 hc1 hc2 (by rw[kd_0];simpa using h0) w hM).mono fun e w' ⟨he,hb⟩=>⟨by rw[he];simp,hb⟩
  have x0:(kd xk==0)=false:=by rw[kd_0];simpa using h0
  by_cases hx1:xk=1
  ·have x1:(kd xk==110)=true:=by rw[kd_n];simpa using hx1
   cases hi:isV c xn n
   ·rw[zFb hx1 rfl hi]
    exact(zJy B d s pc c o n m hd hs hpc xk xn xc h1 e28 e14 hc1 hc2 x0 x1 hi w hM).mono fun e w' ⟨he,hb⟩=>⟨by rw[he];simp,hb⟩
   ·rw[zKh hx1 rfl hi]
    exact(zJx B d s pc c o n m hd hs hpc xk xn xc h1 e28 e14 hc1 hc2 x0 x1 hi o0 o1 w hM).mono fun e w' ⟨he,hb⟩=>⟨by rw[he],hb⟩
  have x1:(kd xk==110)=false:=by rw[kd_n];simpa using hx1
  by_cases hn:n=0
  ·have n0:(n !=0)=false:=by simpa using hn
   by_cases hj:c=15
   ·rw[zKj h0 (show¬(1:Int)=0 by decide) (fun h=>hx1 h.1) hj hn]
    exact(zZc B d s pc c o n m hd hs hpc xk xn xc h1 e28 e14 hc1 hc2 x0 x1 n0 (by simpa using hj) kZ w hM).mono fun e w' ⟨he,hb⟩=>⟨by rw[he];simp,hb⟩
   by_cases hk:c=16
   ·rw[zKi h0 (show¬(1:Int)=0 by decide) (fun h=>hx1 h.1) hk hn]
    exact(zZb B d s pc c o n m hd hs hpc xk xn xc h1 e28 e14 hc1 hc2 x0 x1 n0 (by simpa using hj) (by simpa using hk) (by simpa using hk) o0 o1 w hM).mono fun e w' ⟨he,hb⟩=>⟨by rw[he],hb⟩
   ·rw[z2p h0 (show¬(1:Int)=0 by decide) (fun h=>hx1 h.1) (Or.inl ⟨hj,hk⟩)]
    exact(zK0 B d s pc c o n m hd hs hpc xk xn xc h1 e28 e14 hc1 hc2 x0 x1 n0 (by simpa using hj) (by simpa using hk) w hM).mono fun e w' ⟨he,hb⟩=>⟨by rw[he];simp,hb⟩
  ·rw[z2p h0 (show¬(1:Int)=0 by decide) (fun h=>hx1 h.1) (Or.inr (Or.inr hn))]
   exact(zK2 B d s pc c o n m hd hs hpc xk xn xc h1 e28 e14 hc1 hc2 x0 x1 (by simpa using hn) w hM).mono fun e w' ⟨he,hb⟩=>⟨by rw[he];simp,hb⟩
 |true=>
  rcases h2:m.reg s with⟨yk,yn,yc⟩
  show Calls tP _ _ w fun e w'=>e= rT (.tuple #[A G ((pc:Int)+1+(askF c ⟨xk,xn,xc⟩ ⟨yk,yn,yc⟩ true o n).1),.bool false,A G (askF c ⟨xk,xn,xc⟩ ⟨yk,yn,yc⟩ true o n).2])/\Below w.heap.size w w'
  by_cases h0:xk=0
  ·rw[zSd h0]
   exact(zVq B d s pc c o n m hd hs hpc xk xn xc h1 yk yn yc h2 e28 e14 hc1 hc2 (by rw[kd_0];simpa using h0) w hM).mono fun e w' ⟨he,hb⟩=>⟨by rw[he];simp,hb⟩
  have x0:(kd xk==0)=false:=by rw[kd_0];simpa using h0
  by_cases hy0:yk=0
  ·rw[zX9 hy0]
   exact(zVo B d s pc c o n m hd hs hpc xk xn xc h1 yk yn yc h2 e28 e14 hc1 hc2 x0 (by rw[kd_0];simpa using hy0) w hM).mono fun e w' ⟨he,hb⟩=>⟨by rw[he];simp,hb⟩
  have y0:(kd yk==0)=false:=by rw[kd_0];simpa using hy0
  by_cases hx1:xk=1
  ·have x1:(kd xk==110)=true:=by rw[kd_n];simpa using hx1
   by_cases hy1:yk=1
   ·have y1:(kd yk==110)=true:=by rw[kd_n];simpa using hy1
    cases hi:isV c xn yn
    ·rw[zFb hx1 hy1 hi]
     exact(zJw B d s pc c o n m hd hs hpc xk xn xc h1 yk yn yc h2 e28 e14 hc1 hc2 x0 x1 y0 y1 hi w hM).mono fun e w' ⟨he,hb⟩=>⟨by rw[he];simp,hb⟩
    ·rw[zKh hx1 hy1 hi]
     exact(zJv B d s pc c o n m hd hs hpc xk xn xc h1 yk yn yc h2 e28 e14 hc1 hc2 x0 x1 y0 y1 hi o0 o1 w hM).mono fun e w' ⟨he,hb⟩=>⟨by rw[he],hb⟩
   ·rw[z2p h0 hy0 (fun h=>hy1 h.2) (Or.inr (Or.inl rfl))]
    exact(zK1 B d s pc c o n m hd hs hpc xk xn xc h1 yk yn yc h2 e28 e14 hc1 hc2 x0 y0 x1 (by rw[kd_n];simpa using hy1) w hM).mono fun e w' ⟨he,hb⟩=>⟨by rw[he];simp,hb⟩
  ·rw[z2p h0 hy0 (fun h=>hx1 h.1) (Or.inr (Or.inl rfl))]
   exact(zJz B d s pc c o n m hd hs hpc xk xn xc h1 yk yn yc h2 e28 e14 hc1 hc2 x0 y0 (by rw[kd_n];simpa using hx1) w hM).mono fun e w' ⟨he,hb⟩=>⟨by rw[he];simp,hb⟩
theorem zRs(hd:d<11)(hs:s<11)(hpc:pc<=200)(hc:c=25)(ho64:In64 o)(hok:(m.abs L).Ok)(hM:z01 w B m)(hO:z0u w B m.out L):
  Calls tP 53 #[pT (some ⟨B,0,none⟩),.agg #[A G c,A G d,A G s,.bool false,A G o,A G n],A G pc] w fun e w'=>e= rT (.tuple #[A G ((pc:Int)+1),.bool false,A G (z3x (m.abs L) d (m.reg s) o).1])/\DRes B w w' m (z3x (m.abs L) d (m.reg s) o).1 (z3x (m.abs L) d (m.reg s) o).2:=by
 have e28:(c==28)=false:=kZ;have e14:(c==14)=false:=kZ;have e25:(c==25)=true:=kZ;have hc1:24<c:=kO;rcases h1:m.reg d with⟨xk,xn,xc⟩
 have hp:(m.reg s).Ok:=hok.reg s hs;rcases h3:m.reg s with⟨fk,fn,fc⟩
 rw[h3]at hp;have k0:0<=fk:=hp.k0;have k4:fk<=4:=hp.k4;rcases h2:z0x ⟨fk,fn,fc⟩ o with⟨t,E⟩
 by_cases hE:E=0
 ·subst hE
  have hr:(z0x ⟨fk,fn,fc⟩ o).2=0:=by rw[h2]
  have hb:=z7n hr;have hi:2<=fk\/fk<0:=z9o hr;rw[h2]at hb;obtain⟨j,rfl⟩:=Int.eq_ofNat_of_zero_le hb.1;have hj:=hb.2;unfold z1o at hj
  by_cases hk2:fk=2
  ·rw[if_pos hk2]at hj
   rw[zCt h2 hk2];exact(zOd B d s pc c o n m hd hs hpc xk xn xc h1 fk fn fc h3 e28 e14 hc1 e25 hp ho64 j (by show j<8;omega) (z4j h2 (by show fk≠3;omega)) (by rw[kd_t];simpa using hk2) w hM).mono fun e w' ⟨he,hk,hm⟩=>⟨he,DRes.of_kept hM hO hk hm rfl rfl fun _=>rfl⟩
  have kt:(kd fk==116)=false:=by rw[kd_t];simpa using hk2
  rw[if_neg hk2]at hj
  by_cases hk3:fk=3
  ·rw[if_pos hk3]at hj
   have hj16:j<16:=by show j<16;omega
   rcases h4:m.slot j with⟨sk,sn,sc⟩
   by_cases hsk:sk=0
   ·rw[zAv h2 hk3 (by show(m.slot j).k=0;rw[h4];exact hsk)]
    exact(zJp B d s pc c o n m hd hs hpc xk xn xc h1 fk fn fc h3 e28 e14 hc1 e25 hp ho64 j (11+j) ((j:Int)-16) (z4w h2 hk3) kO kO kO rfl kt (kd_c3 hk3) sk sn sc h4 (by rw[kd_0];simpa using hsk) w hM).mono fun e w' ⟨he,hb⟩=>⟨he,DRes.of_below hM hO hb fun h=>absurd h kS⟩
   ·rw[zCu h2 hk3 (by show(m.slot j).k≠0;rw[h4];exact hsk)]
    exact(zOe B d s pc c o n m hd hs hpc xk xn xc h1 fk fn fc h3 e28 e14 hc1 e25 hp ho64 j (11+j) ((j:Int)-16) (z4w h2 hk3) kO kO kO rfl kt (kd_c3 hk3) sk sn sc h4 (by rw[kd_0];simpa using hsk) w hM).mono fun e w' ⟨he,hk,hm⟩=>⟨he,DRes.of_kept hM hO hk hm rfl rfl fun _=>by show _=(m.abs L).putReg d (m.slot j);rw[h4];rfl⟩
  rw[if_neg hk3]at hj;have hk4:fk=4:=kO;obtain⟨q,hq⟩:=Int.eq_ofNat_of_zero_le hp.c0;have hq':fc=(q:Int):=hq;subst hq';have hq3:(q:Int)<=3:=hp.c3;rw[zCv h2 hk4];exact(zOf B d s pc c o n m hd hs hpc xk xn xc h1 fk fn e28 e14 hc1 e25 j q h3 hp ho64 (by show j<4;omega) kO (z4j h2 hk3) kt (kd_c hk4) w hM).mono fun e w' ⟨he,hk,hm⟩=>⟨he,DRes.of_kept hM hO hk hm rfl rfl fun _=>rfl⟩
 rw[zL8 h2 hE];exact(zVj B d s pc c o n m hd hs hpc xk xn xc h1 fk fn fc h3 e28 e14 hc1 e25 hp ho64 0 E (zDm h2 hE) (by simpa using hE) w hM).mono fun e w' ⟨he,hb⟩=>⟨he,DRes.of_below hM hO hb fun h=>absurd h hE⟩
theorem zOa(hd:d<11)(hs:s<11)(hpc:pc<=200)(hc:c=26)(ho64:In64 o)(hok:(m.abs L).Ok)(hM:z01 w B m)(hO:z0u w B m.out L):
  Calls tP 53 #[pT (some ⟨B,0,none⟩),.agg #[A G c,A G d,A G s,.bool r,A G o,A G n],A G pc] w fun e w'=>e= rT (.tuple #[A G ((pc:Int)+1),.bool false,A G (z2q (m.abs L) (m.reg d) (if r then m.reg s else numF n) o).1])/\DRes B w w' m (z2q (m.abs L) (m.reg d) (if r then m.reg s else numF n) o).1 (z2q (m.abs L) (m.reg d) (if r then m.reg s else numF n) o).2:=by
 have e28:(c==28)=false:=kZ;have e14:(c==14)=false:=kZ;have e25:(c==25)=false:=kZ;have e26:(c==26)=true:=kZ;have hc1:24<c:=kO;have hp:(m.reg d).Ok:=hok.reg d hd;rcases h1:m.reg d with⟨fk,fn,fc⟩
 rw[h1]at hp;have k0:0<=fk:=hp.k0;have k4:fk<=4:=hp.k4;have err: ∀{X:Ending}{w':World}{e:Int}{a:Abs},e≠0->X= rT (.tuple #[A G ((pc:Int)+1),.bool false,A G e])/\Below w.heap.size w w'->X= rT (.tuple #[A G ((pc:Int)+1),.bool false,A G e])/\DRes B w w' m e a:=fun h0 ⟨he,hb⟩=>⟨he,DRes.of_below hM hO hb fun h=>absurd h h0⟩;have slot: ∀{X:Ending}{w':World}{t:Nat}{z:Val},X= rT (.tuple #[A G ((pc:Int)+1),.bool false,A G 0])/\Kept B w w'/\z01 w' B (m.putV (11+t) z)->X= rT (.tuple #[A G ((pc:Int)+1),.bool false,A G 0])/\DRes B w w' m 0 ((m.abs L).putSlot t z):=fun{X w' t z} ⟨he,hk,hm⟩=>⟨he,DRes.of_kept (m':=m.putSlot t z) hM hO hk ((m.putV_slot z)▸hm) rfl rfl fun _=>rfl⟩;rcases h2:z0x ⟨fk,fn,fc⟩ o with⟨t,E⟩
 by_cases hE:E=0
 ·subst hE
  have hr:(z0x ⟨fk,fn,fc⟩ o).2=0:=by rw[h2]
  have hb:=z7n hr;have hi:2<=fk\/fk<0:=z9o hr;rw[h2]at hb;obtain⟨j,rfl⟩:=Int.eq_ofNat_of_zero_le hb.1;have hj:=hb.2;unfold z1o at hj;rw[zFq h2]
  by_cases hk2:fk=2
  ·rw[if_pos hk2]
   have kt:(kd fk==116)=true:=by rw[kd_t];simpa using hk2
   cases r with
   |false=>exact(zEv B d s pc c o n m hd hs hpc fk fn fc h1 e28 e14 hc1 e25 e26 hp ho64 j (z4j h2 (by show fk≠3;omega)) kt w hM).mono fun e w' h=>err kS h
   |true=>
    rcases h3:m.reg s with⟨yk,yn,yc⟩
    exact(zEu B d s pc c o n m hd hs hpc fk fn fc h1 yk yn yc h3 e28 e14 hc1 e25 e26 hp ho64 j (z4j h2 (by show fk≠3;omega)) kt w hM).mono fun e w' h=>err kS h
  have kt:(kd fk==116)=false:=by rw[kd_t];simpa using hk2
  rw[if_neg hk2]at hj⊢
  by_cases hk3:fk=3
  ·rw[if_pos hk3]at hj⊢
   have kf:(kd fk==102)=true:=by rw[kd_f];simpa using hk3
   have hj16:j<16:=by show j<16;omega
   cases r with
   |false=>
    rw[if_neg (show¬(if false=true then m.reg s else numF n).k=0 by simp[numF])];exact(zEx B d s pc c o n m hd hs hpc fk fn fc h1 e28 e14 hc1 e25 e26 hp ho64 (11+j) ((j:Int)-16) (z4w h2 hk3) kO kO kO kt kf w hM).mono fun e w' h=>slot h
   |true=>
    rcases h3:m.reg s with⟨yk,yn,yc⟩
    by_cases hy0:yk=0
    ·rw[if_pos (show(if true=true then(⟨yk,yn,yc⟩:Val)else numF n).k=0 from hy0)]
     exact(z8a B d s pc c o n m hd hs hpc fk fn fc h1 yk yn yc h3 e28 e14 hc1 e25 e26 hp ho64 _ (z4w h2 hk3) kt (by rw[kd_0];simpa using hy0) w hM).mono fun e w' h=>err kS h
    ·rw[if_neg (show¬(if true=true then(⟨yk,yn,yc⟩:Val)else numF n).k=0 from hy0)]
     exact(zEw B d s pc c o n m hd hs hpc fk fn fc h1 yk yn yc h3 e28 e14 hc1 e25 e26 hp ho64 (11+j) ((j:Int)-16) (z4w h2 hk3) kO kO kO kt (by rw[kd_0];simpa using hy0) kf w hM).mono fun e w' h=>slot h
  rw[if_neg hk3]at hj⊢;have kf:(kd fk==102)=false:=by rw[kd_f];simpa using hk3
  obtain⟨q,hq⟩:=Int.eq_ofNat_of_zero_le hp.c0;have hq':fc=(q:Int):=hq;subst hq';have hq3:(q:Int)<=3:=hp.c3
  cases r with
  |false=>
   rw[if_neg (show¬(if false=true then m.reg s else numF n).k=0 by simp[numF]),if_neg (show¬(if false=true then m.reg s else numF n).k≠1 by simp[numF])];exact(zEz B d s pc c o n m hd hs hpc fk fn q h1 e28 e14 hc1 e25 e26 hp ho64 j (by show j<4;omega) kO (z4j h2 hk3) kt kf w hM).mono fun e w' ⟨he,hk,hm⟩=>⟨he,DRes.of_kept hM hO hk hm rfl rfl fun _=>rfl⟩
  |true=>
   rcases h3:m.reg s with⟨yk,yn,yc⟩
   by_cases hy0:yk=0
   ·rw[if_pos (show(if true=true then(⟨yk,yn,yc⟩:Val)else numF n).k=0 from hy0)]
    exact(z8a B d s pc c o n m hd hs hpc fk fn q h1 yk yn yc h3 e28 e14 hc1 e25 e26 hp ho64 _ (z4j h2 hk3) kt (by rw[kd_0];simpa using hy0) w hM).mono fun e w' h=>err kS h
   rw[if_neg (show¬(if true=true then(⟨yk,yn,yc⟩:Val)else numF n).k=0 from hy0)];have y0:(kd yk==0)=false:=by rw[kd_0];simpa using hy0
   by_cases hy1:yk=1
   ·rw[if_neg (show¬(if true=true then(⟨yk,yn,yc⟩:Val)else numF n).k≠1 from fun h=>h hy1)]
    exact(zEy B d s pc c o n m hd hs hpc fk fn q h1 yk yn yc h3 e28 e14 hc1 e25 e26 hp ho64 j (by show j<4;omega) kO (z4j h2 hk3) kt y0 kf (by rw[zDh (kd_n yk)];simpa using hy1) w hM).mono fun e w' ⟨he,hk,hm⟩=>⟨he,DRes.of_kept hM hO hk hm rfl rfl fun _=>rfl⟩
   ·rw[if_pos (show(if true=true then(⟨yk,yn,yc⟩:Val)else numF n).k≠1 from hy1)]
    exact(zH8 B d s pc c o n m hd hs hpc fk fn q h1 yk yn yc h3 e28 e14 hc1 e25 e26 hp ho64 _ (z4j h2 hk3) kt y0 kf (by rw[zDh (kd_n yk)];simpa using hy1) w hM).mono fun e w' h=>err kS h
 rw[zFp h2 hE]
 cases r with
 |false=>exact(zJn B d s pc c o n m hd hs hpc fk fn fc h1 e28 e14 hc1 e25 e26 hp ho64 0 E (zDm h2 hE) (by simpa using hE) w hM).mono fun e w' h=>err hE h
 |true=>
  rcases h3:m.reg s with⟨yk,yn,yc⟩
  exact(zJm B d s pc c o n m hd hs hpc fk fn fc h1 yk yn yc h3 e28 e14 hc1 e25 e26 hp ho64 0 E (zDm h2 hE) (by simpa using hE) w hM).mono fun e w' h=>err hE h
theorem zRp(hd:d<11)(hs:s<11)(hpc:pc<=200)(c1:1<=c)(c2:c<=28)(hc:c≠28)(hn:In64 n)(ho64:In64 o)(h27:c=27->n=1\/n=2\/n=3)(hlead:(c=14\/(15<=c/\c<=24))->0<=o/\o<=200)(hreg:c=14\/c=25\/c=27->r=false)(hok:(m.abs L).Ok)(hM:z01 w B m)(hO:z0u w B m.out L):
  Calls tP 53 #[pT (some ⟨B,0,none⟩),.agg #[A G c,A G d,A G s,.bool r,A G o,A G n],A G pc] w fun e w'=>e= rT (.tuple #[A G ((pc:Int)+1+(doF c d s r o n (m.abs L)).1),.bool false,A G (doF c d s r o n (m.abs L)).2.1])/\DRes B w w' m (doF c d s r o n (m.abs L)).2.1 (doF c d s r o n (m.abs L)).2.2:=by
 unfold doF;rw[Int.toNat_natCast,Int.toNat_natCast];have e28:(c==28)=false:=by simpa using hc
 by_cases h1:15<=c/\c<=24
 ·rw[if_pos h1]
  have hl:=hlead (Or.inr h1);exact(zVp hd hs hpc h1.1 h1.2 hl.1 hl.2 hM).mono fun e w' ⟨he,hb⟩=>⟨he,DRes.of_below hM hO hb fun _=>rfl⟩
 rw[if_neg h1];rcases hx:m.reg d with⟨xk,xn,xc⟩
 by_cases h2:c=14
 ·rw[if_pos h2]
  have hl:=hlead (Or.inl h2);rw[hreg (Or.inl h2)];exact(djump B d s pc c o n m hd hs hpc xk xn xc hx e28 (by simpa using h2) hl.1 hl.2 w hM).mono fun e w' ⟨he,hb⟩=>⟨he,DRes.of_below hM hO hb fun _=>rfl⟩
 rw[if_neg h2];have e14:(c==14)=false:=by simpa using h2
 by_cases h3:c=25
 ·rw[if_pos h3,hreg (Or.inr (Or.inl h3))]
  exact(zRs hd hs hpc h3 ho64 hok hM hO).mono fun e w' ⟨he,hr⟩=>⟨by rw[he];simp;rfl,hr⟩
 rw[if_neg h3];have e25:(c==25)=false:=by simpa using h3
 by_cases h4:c=26
 ·rw[if_pos h4]
  exact(zOa hd hs hpc h4 ho64 hok hM hO).mono fun e w' ⟨he,hr⟩=>⟨by rw[he];simp;rfl,hr⟩
 rw[if_neg h4];have e26:(c==26)=false:=by simpa using h4
 by_cases h5:c=27
 ·rw[if_pos h5,hreg (Or.inr (Or.inr h5))]
  exact(zOb B d s pc c o n m hd hs hpc xk xn xc hx e28 e14 kO e25 e26 (by simpa using h5) L _ _ (fun W hW hOW=>zRw (h27 h5) hW hOW) w hM hO).mono fun e w' ⟨he,hr⟩=>⟨by rw[he];simp,hr⟩
 rw[if_neg h5];have e27:(c==27)=false:=by simpa using h5
 cases r with
 |false=>exact(zC7 B d s pc c o n m hd hs hpc xk xn xc hx e28 e14 kO e25 e26 e27 L _ _ (fun W hW hOW=>zBi hd (numF n) hok (zAq hn) kO hW hOW) w hM hO).mono fun e w' ⟨he,hr⟩=>⟨by rw[he];simp;rfl,hr⟩
 |true=>
  rcases hy:m.reg s with⟨yk,yn,yc⟩
  have hsec:(m.abs L).second s true n=⟨yk,yn,yc⟩:=hy;rw[hsec];exact(zC6 B d s pc c o n m hd hs hpc xk xn xc hx yk yn yc hy e28 e14 kO e25 e26 e27 L _ _ (fun W hW hOW=>zBi hd ⟨yk,yn,yc⟩ hok (hy▸hok.reg s hs) kO hW hOW) w hM hO).mono fun e w' ⟨he,hr⟩=>⟨by rw[he];simp;rfl,hr⟩
end
end
section
attribute [local simp] z0p z0j z04
def dox0(T K:Nat->Int)(time:Int):Dox:=⟨fun _=>z2s,fun _=>z2s,T,0,K,.slice none 0 0,0,time⟩
def z7a(z:Array Value)(T K:Nat->Int)(time:Int):Array Value:=(((((((((((((((((((((((((z).setIfInBounds 81 (A G (T 0))).setIfInBounds 82 (A G (T 1))).setIfInBounds 83 (A G (T 2))).setIfInBounds 84 (A G (T 3))).setIfInBounds 85 (A G (T 4))).setIfInBounds 86 (A G (T 5))).setIfInBounds 87 (A G (T 6))).setIfInBounds 88 (A G (T 7))).setIfInBounds 108 (A G time)).setIfInBounds 90 (A G (K 0))).setIfInBounds 91 (A G (K 1))).setIfInBounds 92 (A G (K 2))).setIfInBounds 93 (A G (K 3))).setIfInBounds 94 (A G (K 4))).setIfInBounds 95 (A G (K 5))).setIfInBounds 96 (A G (K 6))).setIfInBounds 97 (A G (K 7))).setIfInBounds 98 (A G (K 8))).setIfInBounds 99 (A G (K 9))).setIfInBounds 100 (A G (K 10))).setIfInBounds 101 (A G (K 11))).setIfInBounds 102 (A G (K 12))).setIfInBounds 103 (A G (K 13))).setIfInBounds 104 (A G (K 14))).setIfInBounds 105 (A G (K 15))
theorem zOh(T K:Nat->Int)(time:Int):z7a Tryz.zeroCells171 T K time=Array.ofFn (n:=109) fun i=>(dox0 T K time).cell i.1:=by
 kernel_rfl
theorem zZ0(w:World)(T K:Nat->Int)(time:Int):z01 (w.alloc (cT (z7a Tryz.zeroCells171 T K time) 171)) w.heap.size (dox0 T K time):=by
 rw[zOh];show(w.heap.push _)[w.heap.size]?=_;simp
def zHa(T K:Nat->Int)(time:Int):Dox:=((dox0 T K time).putReg 1 ⟨2,0,0⟩).putReg 10 ⟨3,0,0⟩
theorem zH9(T K:Nat->Int)(time:Int):((dox0 T K time).putReg 10 ⟨3,0,0⟩).putReg 1 ⟨2,0,0⟩=zHa T K time:=by
 unfold zHa Dox.putReg;congr 1;funext i;show(if i=1 then(⟨2,0,0⟩:Val)else if i=10 then⟨3,0,0⟩else z2s)=if i=10 then⟨3,0,0⟩else if i=1 then⟨2,0,0⟩else z2s
 by_cases h:i=1
 ·rw[if_pos h,if_neg kO,if_pos h]
 rw[if_neg h,if_neg h]
theorem z01.put1t{w:World}{B:Nat}{m:Dox}(h:z01 w B m):z01 (((w.setCell ⟨B,3,none⟩ (.int .u8 116)).setCell ⟨B,4,none⟩ (A G 0)).setCell ⟨B,5,none⟩ (A G 0)) B (m.putReg 1 ⟨2,0,0⟩):=h.putReg3 (d:=1) kD 2 0 0
theorem z01.put10f{w:World}{B:Nat}{m:Dox}(h:z01 w B m):z01 (((w.setCell ⟨B,30,none⟩ (.int .u8 102)).setCell ⟨B,31,none⟩ (A G 0)).setCell ⟨B,32,none⟩ (A G 0)) B (m.putReg 10 ⟨3,0,0⟩):=h.putReg3 (d:=10) kD 3 0 0
theorem zQ6{len:Nat}{C D S:Nat->Int}{R:Nat->Bool}{O N:Nat->Int}{k:Nat}(h:z0l len C D S R O N k=0)(hc:C k=14\/C k=25\/C k=27\/C k=28):R k=false:=by
 have hr:=z56 h;have c1:=hr.c1;have c2:=hr.c2;have d1:=hr.d1;have d2:=hr.d2;have s1:=hr.s1;have s2:=hr.s2;unfold z0l z3q at h
 have ha:z1e (C k) (D k) (S k) (R k) (O k) (N k)=0:=by
  by_cases e:z1e (C k) (D k) (S k) (R k) (O k) (N k)=0
  ·exact e
  ·rw[if_pos e]at h;exact h
 cases hR:R k
 ·rfl
 exfalso
 rw[hR]at ha
 have hm:moreV (C k) (D k) (S k) true (O k) (N k)=true:=by
  unfold moreV;rcases hc with e|e|e|e
  ·rw[if_neg kO,if_neg kO,if_neg kO,if_pos e];simp
  ·rw[if_neg kO,if_neg kO,if_neg kO,if_neg kO,if_pos e];simp
  ·rw[if_neg kO,if_neg kO,if_neg kO,if_neg kO,if_neg kO,if_neg kO,if_pos e];simp
  ·rw[if_neg kO,if_neg kO,if_neg kO,if_neg kO,if_neg kO,if_neg kO,if_neg kO];simp
 unfold z1e at ha;rw[if_neg kO,if_neg kO]at ha;split at ha
 ·exact absurd ha kD
 rw[if_pos (Or.inl hm)]at ha;exact absurd ha kD
def z8n(n0:Int)(a:Abs)(v:Value)(k:Int):Array Value:=#[A G n0,A G (a.cel 0),A G (a.cel 1),A G (a.cel 2),A G (a.cel 3),A G (a.cel 4),A G (a.cel 5),A G (a.cel 6),A G (a.cel 7),A G (a.cel 8),A G (a.cel 9),A G (a.cel 10),A G (a.cel 11),A G (a.cel 12),A G (a.cel 13),A G (a.cel 14),A G (a.cel 15),v,A G k]
def DPost(w w':World)(X:End)(e:Ending):Prop:=
 Below w.heap.size w w'/\
  match X with
  | .inl (er,q)=>e= rT (.tuple #[z8f,.agg #[A G er,A G (q:Int)]])/\er≠0
  | .inr (n0,k,a)=> ∃v,e= rT (.tuple #[.agg (z8n n0 a v (k:Int)),.agg #[A G 0,A G (-1)]])/\w'.ownsRow (w.heap.size+1) 2 1 v a.out.length (a.out.map (Value.int .i64))
theorem zU8{w2 w7:World}{b b' g g2:Nat}{e:TypeId}{z:Nat}{v:Value}{n:Nat}{xs:List Value}(h:w2.ownsRow b e z v n xs)(hb:Below w2.heap.size w2 w7)(hg:g<b)(hg2:g2<b)(hb':b'<=b)(cs us:Array Value):((w7.setRow g cs).setRow g2 us).ownsRow b' e z v n xs:=by
 obtain⟨h1,h2⟩:=h;refine⟨h1,?_⟩;rcases h2 with h2|⟨k,cap,cur,hv,hk,hh,r⟩
 ·exact Or.inl h2
 exact Or.inr ⟨k,cap,cur,hv,by omega,(setRow_other _ g2 k us kO).trans ((setRow_other w7 g k cs kO).trans ((hb.block k (Array.getElem?_eq_some_iff.1 hh).1).trans hh)),r⟩
def S13(B g g2:Nat)(m:Dox)(W:World):Prop:=z01 W B m/\(∃cs:Array Value,cs.size=19/\W.heap[g]?=some (cT cs 130 (0,0)))/\ ∃us:Array Value,us.size=2/\W.heap[g2]?=some (cT us 75 (0,0))
theorem zUu{o:Oper}{x:Operand}{u:Act}(W:World)(B:Nat)(m:Dox)(hM:z01 W B m)(L:List Int)(ho:o.op= .load 130 x)(hx:u.eval x= pT (some ⟨B,89,none⟩)):(execOp u.eval o).run tP W= .ok (.value (.agg (z8n m.num (m.abs L) m.out m.steps))) W:=by
 have hr:W.rangeAt B 89 (z8n m.num (m.abs L) m.out m.steps).toList:=by
  intro j v hv;have hj:j<19:=(List.getElem?_eq_some_iff.1 hv).1;rw[hM.at _ kO]
  have hk: ∀i,i<19->(z8n m.num (m.abs L) m.out m.steps).toList[i]?=some (m.cell (89+i)):=by
   intro i hi;rcases(show i=0\/i=1\/i=2\/i=3\/i=4\/i=5\/i=6\/i=7\/i=8\/i=9\/i=10\/i=11\/i=12\/i=13\/i=14\/i=15\/i=16\/i=17\/i=18 by omega)with rfl|rfl|rfl|rfl|rfl|rfl|rfl|rfl|rfl|rfl|rfl|rfl|rfl|rfl|rfl|rfl|rfl|rfl|rfl<;>rfl
  rw[hk j hj]at hv;exact hv
 have hl:=run_loadVar_mid (P:=tP) W B 89 130 (z8n m.num (m.abs L) m.out m.steps).toList _ hr Tryz.underlying130 rfl (by rw[Tryz.infoDan];rfl);unfold execOp;simp only[ho,hx,Instr.loadAt,Instr.sureAddr,Sem.run_bind,Sem.run_pure,Result.andThen_ok,hl]
theorem zVg(bk off len cap:Nat)(C D S O N:Nat->Int)(R:Nat->Bool)(T K:Nat->Int)(time:Int)(w:World)(h1:1<=len)(h2:len<=200)(hbk:bk<w.heap.size)(hst:z1g w bk off len C D S R O N)(h: ∀j,j<len->z0l len C D S R O N j=0)(hN: ∀k,k<len->In64 (N k))(hOo: ∀k,k<len->In64 (O k))(hT: ∀i,i<8->In64 (T i))(hK: ∀i,i<16->In64 (K i))(ht:In64 time):
  Calls tP 41 #[.slice (some ⟨bk,off,none⟩) len cap,.agg #[A G (T 0),A G (T 1),A G (T 2),A G (T 3),A G (T 4),A G (T 5),A G (T 6),A G (T 7)],.agg #[A G (K 0),A G (K 1),A G (K 2),A G (K 3),A G (K 4),A G (K 5),A G (K 6),A G (K 7),A G (K 8),A G (K 9),A G (K 10),A G (K 11),A G (K 12),A G (K 13),A G (K 14),A G (K 15)],A G time] w fun e w'=>DPost w w' (runF C D S R O N len 0 0 ((z4c T K time).abs [])) e:=by
 obtain⟨X,hX⟩: ∃X,runF C D S R O N len 0 0 ((z4c T K time).abs [])=X:=⟨_,rfl⟩;rw[hX];have HX0:Hid (runF C D S R O N len 0 0 ((z4c T K time).abs [])=X):=hX;clear hX;have HC:Hid (∀W:World,Below w.heap.size w W->zR 44 #[.slice (some ⟨bk,off,none⟩) len cap] W (.agg #[A G 0,A G (-1)])):=fun W hW=>z7m h (hst.later hW hbk) h1 h2 (Nat.lt_of_lt_of_le hbk hW.size);have HST:Hid (∀W:World,Below w.heap.size w W->z1g W bk off len C D S R O N):=fun W hW=>hst.later hW hbk;have HR:Hid (∀k,k<len->z0l len C D S R O N k=0):=h;have HN:Hid (∀k,k<len->In64 (N k)):=hN;have HOO:Hid (∀k,k<len->In64 (O k)):=hOo;have HOK:Hid (((z4c T K time).abs []).Ok):=z9k hT hK ht;have HL:Hid (1<=len/\len<=200/\bk<w.heap.size):=⟨h1,h2,hbk⟩;clear h hst hN hOo hT hK ht h1 h2 hbk;have HB:Hid (Below w.heap.size w ((((w.alloc (cT #[A G (T 0),A G (T 1),A G (T 2),A G (T 3),A G (T 4),A G (T 5),A G (T 6),A G (T 7)] 34)).alloc (cT #[A G (K 0),A G (K 1),A G (K 2),A G (K 3),A G (K 4),A G (K 5),A G (K 6),A G (K 7),A G (K 8),A G (K 9),A G (K 10),A G (K 11),A G (K 12),A G (K 13),A G (K 14),A G (K 15)] 55)).alloc (cT zeroCs 130)).alloc (cT #[A G 0,A G 0] 75))):=(((((bF _ _).alloc (Nat.le_refl _) _).alloc kS _).alloc kZ _).alloc kZ _);have HT:Hid (((((w.alloc (cT #[A G (T 0),A G (T 1),A G (T 2),A G (T 3),A G (T 4),A G (T 5),A G (T 6),A G (T 7)] 34)).alloc (cT #[A G (K 0),A G (K 1),A G (K 2),A G (K 3),A G (K 4),A G (K 5),A G (K 6),A G (K 7),A G (K 8),A G (K 9),A G (K 10),A G (K 11),A G (K 12),A G (K 13),A G (K 14),A G (K 15)] 55)).alloc (cT zeroCs 130)).alloc (cT #[A G 0,A G 0] 75)).heap[w.heap.size+1+1]?=some (cT zeroCs 130 (0,0))):=boxC _ _ _ _ _;have HU:Hid (((((w.alloc (cT #[A G (T 0),A G (T 1),A G (T 2),A G (T 3),A G (T 4),A G (T 5),A G (T 6),A G (T 7)] 34)).alloc (cT #[A G (K 0),A G (K 1),A G (K 2),A G (K 3),A G (K 4),A G (K 5),A G (K 6),A G (K 7),A G (K 8),A G (K 9),A G (K 10),A G (K 11),A G (K 12),A G (K 13),A G (K 14),A G (K 15)] 55)).alloc (cT zeroCs 130)).alloc (cT #[A G 0,A G 0] 75)).heap[w.heap.size+1+1+1]?=some (cT #[A G 0,A G 0] 75 (0,0))):=boxD _ _ _ _ _;have HX:Hid (((((w.alloc (cT #[A G (T 0),A G (T 1),A G (T 2),A G (T 3),A G (T 4),A G (T 5),A G (T 6),A G (T 7)] 34)).alloc (cT #[A G (K 0),A G (K 1),A G (K 2),A G (K 3),A G (K 4),A G (K 5),A G (K 6),A G (K 7),A G (K 8),A G (K 9),A G (K 10),A G (K 11),A G (K 12),A G (K 13),A G (K 14),A G (K 15)] 55)).alloc (cT zeroCs 130)).alloc (cT #[A G 0,A G 0] 75)).heap[w.heap.size]?=some (cT #[A G (T 0),A G (T 1),A G (T 2),A G (T 3),A G (T 4),A G (T 5),A G (T 6),A G (T 7)] 34 (0,0))):=boxA _ _ _ _ _;have HY:Hid (((((w.alloc (cT #[A G (T 0),A G (T 1),A G (T 2),A G (T 3),A G (T 4),A G (T 5),A G (T 6),A G (T 7)] 34)).alloc (cT #[A G (K 0),A G (K 1),A G (K 2),A G (K 3),A G (K 4),A G (K 5),A G (K 6),A G (K 7),A G (K 8),A G (K 9),A G (K 10),A G (K 11),A G (K 12),A G (K 13),A G (K 14),A G (K 15)] 55)).alloc (cT zeroCs 130)).alloc (cT #[A G 0,A G 0] 75)).heap[w.heap.size+1]?=some (cT #[A G (K 0),A G (K 1),A G (K 2),A G (K 3),A G (K 4),A G (K 5),A G (K 6),A G (K 7),A G (K 8),A G (K 9),A G (K 10),A G (K 11),A G (K 12),A G (K 13),A G (K 14),A G (K 15)] 55 (0,0))):=boxB _ _ _ _ _;go_enter Tryz.func41,Tryz.ntmps41
 go_wp2_with(first
  |(go_at_call 44;refine(HC.out _ HB.out).mono ?_;rintro e w1 ⟨rfl,hb1⟩;have HZ1:Hid (w1.heap[w.heap.size+1+1]?=some (cT zeroCs 130 (0,0))):=(hb1.block (w.heap.size+1+1) (by first|(simp;done)|(simp;omega))).trans HT.out;have HF1:Hid (w1.heap[w.heap.size+1+1+1]?=some (cT #[A G 0,A G 0] 75 (0,0))):=(hb1.block (w.heap.size+1+1+1) (by first|(simp;done)|(simp;omega))).trans HU.out;have HX1:Hid (w1.heap[w.heap.size]?=some (cT #[A G (T 0),A G (T 1),A G (T 2),A G (T 3),A G (T 4),A G (T 5),A G (T 6),A G (T 7)] 34 (0,0))):=(hb1.block w.heap.size (by first|(simp;done)|(simp;omega))).trans HX.out;have HY1:Hid (w1.heap[w.heap.size+1]?=some (cT #[A G (K 0),A G (K 1),A G (K 2),A G (K 3),A G (K 4),A G (K 5),A G (K 6),A G (K 7),A G (K 8),A G (K 9),A G (K 10),A G (K 11),A G (K 12),A G (K 13),A G (K 14),A G (K 15)] 55 (0,0))):=(hb1.block (w.heap.size+1) (by first|(simp;done)|(simp;omega))).trans HY.out;have HBW:Hid (Below w.heap.size w w1):=HB.out.trans (hb1.mono HB.out.size);have HS1:Hid (w.heap.size+1+1+1<w1.heap.size):=(by have:=hb1.size;simp at this;show w.heap.size+1+1+1<w1.heap.size;omega);have HX2:Hid (∀o,(w1.alloc o).heap[w.heap.size]?=some (cT #[A G (T 0),A G (T 1),A G (T 2),A G (T 3),A G (T 4),A G (T 5),A G (T 6),A G (T 7)] 34 (0,0))):=(fun o=>(Below.heap_alloc w1 o _ (by have:=HS1.out;omega)).trans HX1.out);have HY2:Hid (∀o u,((w1.alloc o).alloc u).heap[w.heap.size+1]?=some (cT #[A G (K 0),A G (K 1),A G (K 2),A G (K 3),A G (K 4),A G (K 5),A G (K 6),A G (K 7),A G (K 8),A G (K 9),A G (K 10),A G (K 11),A G (K 12),A G (K 13),A G (K 14),A G (K 15)] 55 (0,0))):=(fun o u=>(Below.heap_alloc (w1.alloc o) u _ (by have:=HS1.out;simp;omega)).trans ((Below.heap_alloc w1 o _ (by have:=HS1.out;omega)).trans HY1.out));clear hb1)
  |(refine wpList_load_row rfl 34 (.tmp 5) rfl w.heap.size rfl 34 #[A G (T 0),A G (T 1),A G (T 2),A G (T 3),A G (T 4),A G (T 5),A G (T 6),A G (T 7)] (0,0) _ (HX2.out _) Tryz.underlying34 rfl Tryz.infoT ?_)
  |(refine wpList_load_row rfl 55 (.tmp 6) rfl (w.heap.size+1) rfl 55 #[A G (K 0),A G (K 1),A G (K 2),A G (K 3),A G (K 4),A G (K 5),A G (K 6),A G (K 7),A G (K 8),A G (K 9),A G (K 10),A G (K 11),A G (K 12),A G (K 13),A G (K 14),A G (K 15)] (0,0) _ (HY2.out _ _) Tryz.underlying55 rfl Tryz.infoK ?_)
  |fail)
 have hD0:z01 ((w1.alloc (cT #[A G 0,A G (-1)] 75)).alloc (cT (z7a Tryz.zeroCells171 T K time) 171)) (w1.heap.size+1) (dox0 T K time):=by
  have:=zZ0 (w1.alloc (cT #[A G 0,A G (-1)] 75)) T K time;simp only[World.size_alloc]at this;exact this
 have HBA:Hid (Below w.heap.size w ((w1.alloc (cT #[A G 0,A G (-1)] 75)).alloc (cT (z7a Tryz.zeroCells171 T K time) 171))):=(HBW.out.alloc HBW.out.size _).alloc (by have:=HBW.out.size;simp;omega) _;have HZA:Hid (((w1.alloc (cT #[A G 0,A G (-1)] 75)).alloc (cT (z7a Tryz.zeroCells171 T K time) 171)).heap[w.heap.size+1+1]?=some (cT zeroCs 130 (0,0))):=(Below.heap_alloc (w1.alloc (cT #[A G 0,A G (-1)] 75)) _ _ (by have:=HS1.out;simp;omega)).trans ((Below.heap_alloc w1 _ _ (by have:=HS1.out;omega)).trans HZ1.out);have HFA:Hid (((w1.alloc (cT #[A G 0,A G (-1)] 75)).alloc (cT (z7a Tryz.zeroCells171 T K time) 171)).heap[w.heap.size+1+1+1]?=some (cT #[A G 0,A G 0] 75 (0,0))):=(Below.heap_alloc (w1.alloc (cT #[A G 0,A G (-1)] 75)) _ _ (by have:=HS1.out;simp;omega)).trans ((Below.heap_alloc w1 _ _ HS1.out).trans HF1.out);have HBe:Hid (w.heap.size+1+1+1<w1.heap.size+1):=by show w.heap.size+1+1+1<w1.heap.size+1;have:=HS1.out;omega
 unfold z7a at hD0 HBA HZA HFA;generalize (w1.alloc (cT #[A G 0,A G (-1)] 75)).alloc (cT ((((((((((((((((((((((((((Tryz.zeroCells171).setIfInBounds 81 (A G (T 0))).setIfInBounds 82 (A G (T 1))).setIfInBounds 83 (A G (T 2))).setIfInBounds 84 (A G (T 3))).setIfInBounds 85 (A G (T 4))).setIfInBounds 86 (A G (T 5))).setIfInBounds 87 (A G (T 6))).setIfInBounds 88 (A G (T 7))).setIfInBounds 108 (A G time)).setIfInBounds 90 (A G (K 0))).setIfInBounds 91 (A G (K 1))).setIfInBounds 92 (A G (K 2))).setIfInBounds 93 (A G (K 3))).setIfInBounds 94 (A G (K 4))).setIfInBounds 95 (A G (K 5))).setIfInBounds 96 (A G (K 6))).setIfInBounds 97 (A G (K 7))).setIfInBounds 98 (A G (K 8))).setIfInBounds 99 (A G (K 9))).setIfInBounds 100 (A G (K 10))).setIfInBounds 101 (A G (K 11))).setIfInBounds 102 (A G (K 12))).setIfInBounds 103 (A G (K 13))).setIfInBounds 104 (A G (K 14))).setIfInBounds 105 (A G (K 15))) 171)=w5 at hD0 HBA HZA HFA⊢;generalize w1.heap.size+1=B at hD0 HBe⊢;clear HC HB HT HU HX HY HX1 HY1 HX2 HY2 HZ1 HF1 HBW HS1;have hB5:=hD0.lt;obtain⟨a0,a1,a2⟩:=hD0.reg3 (d:=1) kD;simp only[Nat.reduceMul,Nat.reduceAdd]at a0 a1 a2;obtain⟨b0,b1,b2⟩:=hD0.reg3 (d:=10) kD;simp only[Nat.reduceMul,Nat.reduceAdd]at b0 b1 b2;have f3:=hD0.frozen 3;have f4:=hD0.frozen 4;have f5:=hD0.frozen 5;have f30:=hD0.frozen 30;have f31:=hD0.frozen 31;have f32:=hD0.frozen 32;go_cut [32] (fun _ wx=>z01 wx B (zHa T K time)/\Hid (Kept B w5 wx))
 case first=>
  go_region
  all_goals(go_wp2_with fail;go_meet)
  all_goals refine⟨?_,(by show Kept _ _ _;repeat' first|with_reducible(first|exact z12 _ _|refine z50 ?_)|with_reducible refine z0v ?_ _ _)⟩
  all_goals first|(unfold zHa;exact(by repeat' first|with_reducible assumption|with_reducible(first|refine z01.drew ?_|refine z01.put10f ?_)|with_reducible refine z01.put1t ?_))|(rw[<-zH9];exact(by repeat' first|with_reducible assumption|with_reducible(first|refine z01.drew ?_|refine z01.put10f ?_)|with_reducible refine z01.put1t ?_))
 obtain⟨hD,HKc⟩:=hcut;have HBc:Hid (Below w.heap.size w wc):=HBA.out.trans ((z1a HKc.out hB5).mono (by have:=HBe.out;omega));have HZc:Hid (wc.heap[w.heap.size+1+1]?=some (cT zeroCs 130 (0,0))):=((z1a HKc.out hB5).block _ (by have:=HBe.out;omega)).trans HZA.out;have HFc:Hid (wc.heap[w.heap.size+1+1+1]?=some (cT #[A G 0,A G 0] 75 (0,0))):=((z1a HKc.out hB5).block _ HBe.out).trans HFA.out;clear a0 a1 a2 b0 b1 b2 f3 f4 f5 f30 f31 f32 hD0 HBA HZA HFA HKc hB5;go_wp2_with fail;go_loopw [12] (fun ix wr=> ∃(pc k:Nat)(m1:Dox)(L1:List Int),Hid (ix=A G pc/\pc<len/\k<=pc/\Below B wc wr/\z01 wr B m1/\z0u wr B m1.out L1/\(m1.abs L1).Ok/\m1.steps=(k:Int)/\runF C D S R O N len pc k (m1.abs L1)=X)) (fun ix _=>len-(intOf ix).toNat)
 case atStart=>exact⟨0,0,zHa T K time,[],rfl,by have:=HL.out;omega,Nat.le_refl _,bF _ _,hD,World.ownsRow_nil wc (B+1) _ 1,HOK.out,rfl,HX0.out⟩
 case round=>
  obtain⟨pc,k,m1,L1,H⟩:=hrel;have hix:=H.out.1;have hpc:=H.out.2.1;have hkp:=H.out.2.2.1;have hb:=H.out.2.2.2.1;have hM1:=H.out.2.2.2.2.1;have hok1:=H.out.2.2.2.2.2.2.1;have hB:=hM1.lt;have q1:=hM1.steps;rw[H.out.2.2.2.2.2.2.2.1]at q1;have f1:=hM1.frozen 107;have HH:Hid (runF C D S R O N len pc k (m1.abs L1)=X):=H.out.2.2.2.2.2.2.2.2;have HO1:Hid (z0u wr B m1.out L1):=H.out.2.2.2.2.2.1;subst hix;have HBr:Hid (Below w.heap.size w wr):=HBc.out.trans (hb.mono (by have:=HBe.out;omega));obtain⟨g0,g1,g2,g3,g4,g5⟩:=HST.out wr HBr.out pc hpc;have hr:=z56 (HR.out pc hpc);have hn:=HN.out pc hpc;have ho:=HOO.out pc hpc;have hreg:=zQ6 (HR.out pc hpc);obtain⟨d,hd⟩:=Int.eq_ofNat_of_zero_le hr.d1;obtain⟨s,hs⟩:=Int.eq_ofNat_of_zero_le hr.s1;have hd11:d<11:=by have:=hr.d2;omega
  have hs11:s<11:=by have:=hr.s2;omega
  rcases hD2:doF (C pc) (D pc) (S pc) (R pc) (O pc) (N pc) (m1.abs L1)with⟨of,er,a2⟩
  have hofs:=zRr hr hpc;have HX1:Hid (C pc=28->(z23 (m1.reg 0)=0->X= .fine (m1.reg 0).n (k+1) (m1.abs L1))/\(z23 (m1.reg 0)≠0->X= .bad (z23 (m1.reg 0)) pc)):=fun h=>⟨fun hw=>HH.out.symm.trans (z7j hpc h hw),fun hw=>HH.out.symm.trans (z55 hpc h hw)⟩
  have HX2:Hid (C pc≠28->(er≠0->X= .bad er pc)/\(er=0->runF C D S R O N len (pc+1+of.toNat) (k+1) a2=X)):=fun h=>⟨fun hw=>by
   have:=zDv (k:=k) (a:=m1.abs L1) (R:=R) (D:=D) (S:=S) (O:=O) (N:=N) hpc h (by rw[hD2];exact hw);rw[hD2]at this;exact HH.out.symm.trans this,fun hw=>by
   have:=zDu (k:=k) (a:=m1.abs L1) (R:=R) (D:=D) (S:=S) (O:=O) (N:=N) hpc h (by rw[hD2];exact hw);rw[hD2]at this;exact this.symm.trans HH.out⟩
  have HOF:Hid (C pc≠28->0<=of/\(pc:Int)+1+of<len):=fun h=>by have:=hofs h (m1.abs L1);rw[hD2]at this;exact this
  have HOKA:Hid (C pc≠28->a2.Ok):=fun h=>by have:=zLj hok1 hr.c1 hr.c2 h hr.d1 hr.d2 hr.s1 hr.s2 hn (r:=R pc) (o:=O pc);rw[hD2]at this;exact this
  have HLEAD:Hid ((C pc=14\/(15<=C pc/\C pc<=24))->0<=O pc/\O pc<=200):=fun h=>by have:=hr.lead h;have:=HL.out;omega
  have HREG:Hid (C pc=14\/C pc=25\/C pc=27->R pc=false):=fun h=>hreg kO;have HREGX:Hid (C pc=28->R pc=false):=fun h=>hreg kO;have HD00:Hid (C pc=28->d=0):=fun h=>by have:=hr.exit h;omega
  have c1:=hr.c1;have c2:=hr.c2;have H27:Hid (C pc=27->N pc=1\/N pc=2\/N pc=3):=hr.call;rw[hd,hs]at hD2;rw[hd]at g1;rw[hs]at g2;clear hofs hd hs H hr HH hreg;generalize C pc=c at*;generalize R pc=r at*;generalize O pc=o at*;generalize N pc=n at*;have HD:Hid (doF c (d:Int) (s:Int) r o n ((m1.setSteps ((k:Int)+1)).abs L1)=(of,er,a2)):=hD2;have HNN:Hid (In64 n/\In64 o):=⟨hn,ho⟩;clear hD2 hn ho HX0 hD HOK;have hl:=HL.out;have hbe:=HBe.out;have hbkB:bk<B:=kO;have hbkn:bk≠B:=kO;clear hbe;have hk0:(0:Int)<=(k:Int):=kO;have hk1:(k:Int)<=200:=kO;have hp0:(0:Int)<=(pc:Int):=kO;have hp1:(pc:Int)<len:=kO;have hp2:pc<=200:=kO;clear hl;have HMW:Hid (z01 (wr.setCell ⟨B,107,none⟩ (A G ((k:Int)+1))) B (m1.setSteps ((k:Int)+1))):=hM1.putSteps _;have HOW:Hid (z0u (wr.setCell ⟨B,107,none⟩ (A G ((k:Int)+1))) B m1.out L1):=HO1.out.kept (z0v (z12 B wr) _ _);have HBW2:Hid (Below B wc (wr.setCell ⟨B,107,none⟩ (A G ((k:Int)+1)))):=hb.trans (z1a (z0v (z12 B wr) _ _) hB)
  by_cases hc:c=28
  ·have HX3:=HX1.out hc
   have hd0:d=0:=HD00.out hc;have hr0:r=false:=HREGX.out hc;subst hr0;have e28:(c==28)=true:=by simpa using hc
   rcases h0:m1.reg 0 with⟨xk,xn,xc⟩
   rw[h0]at HX3;have HXd:Hid ((m1.setSteps ((k:Int)+1)).reg d=⟨xk,xn,xc⟩):=by show m1.reg d=_;rw[hd0];exact h0
   have HX4:Hid ((z23 ⟨xk,xn,xc⟩=0->X= .fine xn (k+1) (m1.abs L1))/\(z23 ⟨xk,xn,xc⟩≠0->X= .bad (z23 ⟨xk,xn,xc⟩) pc)):=HX3;clear HX3 HX1 HX2 HOF HOKA HLEAD HREG HREGX HD00 HD H27 c1 c2 hc hd0 h0
   by_cases hx1:xk=1
   ·have x0:(kd xk==0)=false:=by rw[kd_0];simp[hx1]
    have x1:(kd xk==110)=true:=by rw[kd_n];simpa using hx1
    have HXF:Hid (X= .fine xn (k+1) (m1.abs L1)):=HX4.out.1 (by unfold z23;rw[if_neg (by show¬xk=0;omega),if_pos hx1]);have HE:=zOg B d s pc c o n (m1.setSteps ((k:Int)+1)) hd11 hs11 hp2 xk xn xc HXd e28 x0 x1 _ HMW.out;have HEh:Hid (Calls tP 53 #[pT (some ⟨B,0,none⟩),.agg #[A G c,A G d,A G s,.bool false,A G o,A G n],A G pc] (wr.setCell ⟨B,107,none⟩ (A G ((k:Int)+1))) fun e w'=>e= rT (.tuple #[A G ((pc:Int)+1),.bool true,A G 0])/\Kept B (wr.setCell ⟨B,107,none⟩ (A G ((k:Int)+1))) w'/\z01 w' B ((m1.setSteps ((k:Int)+1)).setNum xn)):=HE;clear HE hx1 x0 x1
    go_wp2_with(first
     |(go_at_call 53;refine HEh.out.mono ?_;rintro e w2 ⟨rfl,hk2,hM2⟩;have HB2:Hid (Below B wc w2):=HBW2.out.trans (z1a hk2 kZ);have HZ2:Hid (w2.heap[w.heap.size+1+1]?=some (cT zeroCs 130 (0,0))):=(HB2.out.block _ (by have:=HBe.out;omega)).trans HZc.out;have HF2:Hid (w2.heap[w.heap.size+1+1+1]?=some (cT #[A G 0,A G 0] 75 (0,0))):=(HB2.out.block _ HBe.out).trans HFc.out;have HO2:Hid (z0u w2 B m1.out L1):=HOW.out.kept hk2;clear hk2)
     |fail)
    obtain⟨u0,u1,hsl⟩:=HO2.out.shape;have HSL:Hid (m1.out= .slice u0 L1.length u1):=hsl;clear hsl;have hbe:=HBe.out;have hb2lt:=hM2.lt;have HBF:Hid (Below w.heap.size w w2):=HBc.out.trans (HB2.out.mono kO);have hone:(z8n xn (m1.abs L1) m1.out ((k:Int)+1)).all (·.oneCell')=true:=by rw[HSL.out];kernel_rfl
    have hS:S13 B (w.heap.size+1+1) (w.heap.size+1+1+1) ((m1.setSteps ((k:Int)+1)).setNum xn) w2.drew:=⟨hM2,⟨_,rfl,HZ2.out⟩,⟨_,rfl,HF2.out⟩⟩;refine wp_region_held_drew (S:=S13 B (w.heap.size+1+1) (w.heap.size+1+1+1) ((m1.setSteps ((k:Int)+1)).setNum xn)) kR hS fun _=>?_;change wpAnyH _ _ _ _ _ 7 (Array.replicate 7 false) _ _
    refine tkH (i:=0) (some 69) (pT (some ⟨B,0,none⟩)) rfl rfl (fun W hW=>?_) hS ?_
    ·go_simp
    simp only[pS];refine tkH (i:=1) (some 70) (pT (some ⟨B,0,none⟩)) rfl rfl (fun W hW=>?_) hS ?_
    ·go_simp
    simp only[pS];refine tkH (i:=2) (some 71) (pT (some ⟨B,89,none⟩)) rfl rfl (fun W hW=>?_) hS ?_
    ·go_simp
    simp only[pS];refine tkH (i:=3) (some 72) (.agg (z8n xn (m1.abs L1) m1.out ((k:Int)+1))) rfl rfl (fun W hW=>?_) hS ?_
    ·exact zUu (x:= .tmp 71) W B _ hW.1 L1 rfl rfl
    simp only[pS];refine wpAnyH_ready (rs:=[4]) kR kS ?_;refine z3h (some 73) 14 #[A G 0] rfl rfl kI ?_ ?_ AllReadyH.nil
    ·go_simp
    refine(zA4 0 _).mono ?_;rintro e w7 ⟨rfl,hb7⟩;have hb7:=z52 hb7;have HZ7:Hid (w7.heap[w.heap.size+1+1]?=some (cT zeroCs 130 (0,0))):=(hb7.block _ kO).trans HZ2.out;have HF7:Hid (w7.heap[w.heap.size+1+1+1]?=some (cT #[A G 0,A G 0] 75 (0,0))):=(hb7.block _ kO).trans HF2.out;have hM7:=hM2.later hb7;have HF8:Hid ((w7.setRow (w.heap.size+1+1) (z8n xn (m1.abs L1) m1.out ((k:Int)+1))).heap[w.heap.size+1+1+1]?=some (cT #[A G 0,A G 0] 75 (0,0))):=(setRow_other w7 _ _ _ kO).trans HF7.out;have hS7:S13 B (w.heap.size+1+1) (w.heap.size+1+1+1) ((m1.setSteps ((k:Int)+1)).setNum xn) w7:=⟨hM7,⟨_,rfl,HZ7.out⟩,⟨_,rfl,HF7.out⟩⟩;have hS8:S13 B (w.heap.size+1+1) (w.heap.size+1+1+1) ((m1.setSteps ((k:Int)+1)).setNum xn) (w7.setRow (w.heap.size+1+1) (z8n xn (m1.abs L1) m1.out ((k:Int)+1))):=⟨(setRow_other w7 _ B _ kO).trans hM7,⟨_,rfl,setRow_heap w7 _ zeroCs _ _ _ HZ7.out⟩,⟨_,rfl,HF8.out⟩⟩;have hS9:S13 B (w.heap.size+1+1) (w.heap.size+1+1+1) ((m1.setSteps ((k:Int)+1)).setNum xn) ((w7.setRow (w.heap.size+1+1) (z8n xn (m1.abs L1) m1.out ((k:Int)+1))).setRow (w.heap.size+1+1+1) #[A G 0,A G (-1)]):=⟨(setRow_other _ _ B _ kO).trans hS8.1,⟨_,rfl,(setRow_other _ _ _ _ kO).trans (setRow_heap w7 _ zeroCs _ _ _ HZ7.out)⟩,⟨_,rfl,setRow_heap _ _ #[A G 0,A G 0] _ _ _ HF8.out⟩⟩;refine⟨_,rfl,hS7,?_⟩;simp only[pS];refine wpAnyH_ready (rs:=[5]) kR kS ?_;refine z3b (w7.setRow (w.heap.size+1+1) (z8n xn (m1.abs L1) m1.out ((k:Int)+1))) rfl rfl kI ?_ hS8 ?_ AllReadyH.nil
    ·exact z5p _ _ _ _ _ zeroCs _ rfl rfl rfl Tryz.infoDan HZ7.out rfl hone
    simp only[Act.put];refine wpAnyH_ready (rs:=[6]) kR kS ?_;refine z3b ((w7.setRow (w.heap.size+1+1) (z8n xn (m1.abs L1) m1.out ((k:Int)+1))).setRow (w.heap.size+1+1+1) #[A G 0,A G (-1)]) rfl rfl kI ?_ hS9 ?_ AllReadyH.nil
    ·exact z5p _ _ _ _ _ #[A G 0,A G 0] _ rfl rfl rfl Tryz.infoFlt HF8.out rfl (zEr _ _)
    simp only[Act.put];refine wpAnyH_done kR ?_ _;go_wp2;refine bodyPost_ret (v:= .tuple #[.agg (z8n xn (m1.abs L1) m1.out ((k:Int)+1)),.agg #[A G 0,A G (-1)]]) (z7b _ _ (w.heap.size+1+1) (w.heap.size+1+1+1) _ _ rfl rfl ((setRow_other _ _ _ _ kO).trans (setRow_heap w7 _ zeroCs _ _ _ HZ7.out)) rfl (setRow_heap _ _ #[A G 0,A G 0] _ _ _ HF8.out) rfl) rfl ?_;rw[HXF.out];refine⟨z3n (z3n (HBF.out.trans (hb7.mono HBF.out.size)) kO _) kO _,m1.out,?_,?_⟩
    ·rw[show(((k+1:Nat)):Int)=(k:Int)+1 by omega]
    ·have hown:w2.ownsRow (B+1) 2 1 m1.out L1.length (L1.map (Value.int .i64)):=HO2.out
     exact zU8 hown hb7 kO kO kO _ _
   ·obtain⟨er,HER,HXB,HE⟩: ∃er:Int,Hid (er≠0)/\Hid (X= .bad er pc)/\Hid (Calls tP 53 #[pT (some ⟨B,0,none⟩),.agg #[A G c,A G d,A G s,.bool false,A G o,A G n],A G pc] (wr.setCell ⟨B,107,none⟩ (A G ((k:Int)+1))) fun e w'=>e= rT (.tuple #[A G ((pc:Int)+1),.bool false,A G er])/\Below (wr.setCell ⟨B,107,none⟩ (A G ((k:Int)+1))).heap.size (wr.setCell ⟨B,107,none⟩ (A G ((k:Int)+1))) w'):=by
     by_cases hx0:xk=0
     ·have hw:z23 ⟨xk,xn,xc⟩=8:=if_pos hx0
      exact⟨8,by show(8:Int)≠0;decide,by show X=_;rw[HX4.out.2 (by rw[hw];decide),hw],zVl B d s pc c o n (m1.setSteps ((k:Int)+1)) hd11 hs11 hp2 xk xn xc HXd e28 (by rw[kd_0];simpa using hx0) _ HMW.out⟩
     ·have hw:z23 ⟨xk,xn,xc⟩=1:=by unfold z23;rw[if_neg hx0,if_neg hx1]
      exact⟨1,by show(1:Int)≠0;decide,by show X=_;rw[HX4.out.2 (by rw[hw];decide),hw],zRt B d s pc c o n (m1.setSteps ((k:Int)+1)) hd11 hs11 hp2 xk xn xc HXd e28 (by rw[kd_0];simpa using hx0) (by rw[kd_n];simpa using hx1) _ HMW.out⟩
    have he1:(er !=0)=true:=by simpa using HER.out
    clear hx1
    go_wp2_with(first
     |(go_at_call 53;refine HE.out.mono ?_;rintro e w2 ⟨rfl,hb2⟩;have HB2:Hid (Below B wc w2):=HBW2.out.trans (hb2.mono kZ);have HZ2:Hid (w2.heap[w.heap.size+1+1]?=some (cT zeroCs 130 (0,0))):=(HB2.out.block _ (by have:=HBe.out;omega)).trans HZc.out;have HF3:Hid ((w2.setRow (w.heap.size+1+1) zeroCs).heap[w.heap.size+1+1+1]?=some (cT #[A G 0,A G 0] 75 (0,0))):=(setRow_other w2 _ _ _ kO).trans ((HB2.out.block _ HBe.out).trans HFc.out);clear hb2)
     |(refine wpList_store_row rfl 130 (.tmp 8) (.tmp 64) rfl (w.heap.size+1+1) zeroCs rfl rfl 130 zeroCs HZ2.out Tryz.infoDan rfl zeroCs_one ?_)
     |(refine wpList_store_row rfl 75 (.tmp 9) (.tmp 67) rfl (w.heap.size+1+1+1) #[A G er,A G (pc:Int)] rfl rfl 75 #[A G 0,A G 0] HF3.out Tryz.infoFlt rfl (zEr _ _) ?_)
     |fail)
    exact bodyPost_ret (v:= .tuple #[z8f,.agg #[A G er,A G (pc:Int)]]) (z7b _ _ (w.heap.size+1+1) (w.heap.size+1+1+1) zeroCs _ rfl rfl ((setRow_other _ _ _ _ kO).trans (setRow_heap w2 _ zeroCs _ _ _ HZ2.out)) rfl (setRow_heap _ _ #[A G 0,A G 0] _ _ _ HF3.out) rfl) rfl (by rw[HXB.out];exact⟨z3n (z3n (HBc.out.trans (HB2.out.mono (by have:=HBe.out;omega))) kO _) kO _,rfl,HER.out⟩)
  ·have HX3:Hid ((er≠0->X= .bad er pc)/\(er=0->runF C D S R O N len (pc+1+of.toNat) (k+1) a2=X)):=HX2.out hc
   have HOK3:Hid a2.Ok:=HOKA.out hc;have hof:=HOF.out hc;obtain⟨j,rfl⟩:=Int.eq_ofNat_of_zero_le hof.1;have hj0:(0:Int)<=(j:Int):=kO;have hj1:(pc:Int)+1+(j:Int)<len:=hof.2
   have HE:Hid (Calls tP 53 #[pT (some ⟨B,0,none⟩),.agg #[A G c,A G d,A G s,.bool r,A G o,A G n],A G pc] (wr.setCell ⟨B,107,none⟩ (A G ((k:Int)+1))) fun e w'=>e= rT (.tuple #[A G ((pc:Int)+1+(j:Int)),.bool false,A G er])/\DRes B (wr.setCell ⟨B,107,none⟩ (A G ((k:Int)+1))) w' (m1.setSteps ((k:Int)+1)) er a2):=by
    have:=zRp (B:=B) (d:=d) (s:=s) (pc:=pc) (r:=r) (c:=c) (o:=o) (n:=n) (m:=m1.setSteps ((k:Int)+1)) (L:=L1) (w:=wr.setCell ⟨B,107,none⟩ (A G ((k:Int)+1))) hd11 hs11 hp2 c1 c2 hc HNN.out.1 HNN.out.2 H27.out HLEAD.out HREG.out hok1 HMW.out HOW.out;rw[HD.out]at this;exact this
   clear hc hof HX1 HX2 HOF HOKA HLEAD HREG HREGX HD00 HD H27 c1 c2
   by_cases he:er=0
   ·subst he
    go_wp2_with(first
     |(go_at_call 53;refine HE.out.mono ?_;rintro e w2 ⟨rfl,hr2⟩;have HR2:Hid (DRes B _ w2 (m1.setSteps ((k:Int)+1)) 0 a2):=hr2;clear hr2)
     |fail)
    go_roundw
    case rel=>
     obtain⟨hb2,m2,L2,hM2,hO2,e2,ea⟩:=HR2.out;have ha2:m2.abs L2=a2:=ea rfl;have hrun:=HX3.out.2 (by trivial);rw[Int.toNat_natCast, <-ha2]at hrun;refine⟨pc+1+j,k+1,m2,L2,?_,by omega,by omega,HBW2.out.trans hb2,hM2,hO2,?_,?_,hrun⟩
     ·show Value.int .i64 ((pc:Int)+1+(j:Int))=A G ((pc+1+j:Nat):Int)
      congr 1
     ·have:=HOK3.out
      rw[<-ha2]at this;exact this
     ·rw[e2]
      show(k:Int)+1=((k+1:Nat):Int);omega
    case measure=>simp[intOf];omega
   ·have he1:(er !=0)=true:=by simpa using he
    have HER:Hid (er≠0):=he;have HXB:Hid (X= .bad er pc):=HX3.out.1 he;clear he
    go_wp2_with(first
     |(go_at_call 53;refine HE.out.mono ?_;rintro e w2 ⟨rfl,hr2⟩;have HB2:Hid (Below B wc w2):=HBW2.out.trans hr2.1;have HZ2:Hid (w2.heap[w.heap.size+1+1]?=some (cT zeroCs 130 (0,0))):=(HB2.out.block _ (by have:=HBe.out;omega)).trans HZc.out;have HF3:Hid ((w2.setRow (w.heap.size+1+1) zeroCs).heap[w.heap.size+1+1+1]?=some (cT #[A G 0,A G 0] 75 (0,0))):=(setRow_other w2 _ _ _ kO).trans ((HB2.out.block _ HBe.out).trans HFc.out);clear hr2)
     |(refine wpList_store_row rfl 130 (.tmp 8) (.tmp 64) rfl (w.heap.size+1+1) zeroCs rfl rfl 130 zeroCs HZ2.out Tryz.infoDan rfl zeroCs_one ?_)
     |(refine wpList_store_row rfl 75 (.tmp 9) (.tmp 67) rfl (w.heap.size+1+1+1) #[A G er,A G (pc:Int)] rfl rfl 75 #[A G 0,A G 0] HF3.out Tryz.infoFlt rfl (zEr _ _) ?_)
     |fail)
    exact bodyPost_ret (v:= .tuple #[z8f,.agg #[A G er,A G (pc:Int)]]) (z7b _ _ (w.heap.size+1+1) (w.heap.size+1+1+1) zeroCs _ rfl rfl ((setRow_other _ _ _ _ kO).trans (setRow_heap w2 _ zeroCs _ _ _ HZ2.out)) rfl (setRow_heap _ _ #[A G 0,A G 0] _ _ _ HF3.out) rfl) rfl (by rw[HXB.out];exact⟨z3n (z3n (HBc.out.trans (HB2.out.mono (by have:=HBe.out;omega))) kO _) kO _,rfl,HER.out⟩)
end
section
set_option maxHeartbeats 40000000
set_option maxRecDepth 1000000
attribute [local simp] dwS z04
theorem z8b{w:World}{B:Nat}{p:Pg}(hp:PgOk w B p)(T:Nat->Int)(time:Int)(hT: ∀i,i<8->In64 (T i))(ht:In64 time):
  Calls tP 41 #[p.sl,.agg (z06 T),.agg (z19 p.tab),A G time] w fun e w'=> ∃v,e= rT v/\ ∃vo er i,v= .tuple #[.agg (rnCs (p.run T time) vo),.agg #[A G er,A G i]]/\Below w.heap.size w w'/\w'.ownsRow w.heap.size 2 1 vo (p.run T time).out.length ((p.run T time).out.map (Value.int .i64)):=by
 obtain⟨bk,cap,e,h1,h2,h3⟩:=hp.lies;rw[e];unfold Pg.run runL;refine(zVg bk 0 p.xs.length cap _ _ _ _ _ _ T p.tab time w hp.some hp.few h1 h3 hp.right (fun j hj=>(hp.nums j hj).2) (fun j hj=>(hp.nums j hj).1) hT hp.tab ht).mono fun e' w' hh=>?_;obtain⟨hb,hh⟩:=hh;generalize runF (fun j=>(nth p.xs j).c) (fun j=>(nth p.xs j).d) (fun j=>(nth p.xs j).s) (fun j=>(nth p.xs j).r) (fun j=>(nth p.xs j).o) (fun j=>(nth p.xs j).n) p.xs.length 0 0 ((z4c T p.tab time).abs [])=X at hh⊢;rcases X with⟨er,q⟩|⟨n0,k,a⟩
 ·exact⟨_,hh.1,.slice none 0 0,er,q,rfl,hb,World.ownsRow_nil _ _ _ _⟩
 obtain⟨v,g1,g2⟩:=hh;exact⟨_,g1,v,0, -1,rfl,hb,z42 g2 (Nat.le_succ _)⟩
def zWl(T:Nat->Int)(time:Int)(zs dn rs:List Zp)(s:Sd):Prop:=
 (dn++rs).map (fun z=>z.1)=zs.map (fun z=>z.1)/\
 ((s.bf=0/\z05 T time (zs.map fun z=>z.2) sd0=((z05 T time (rs.map fun z=>z.2) s).1,dn.map (fun z=>z.2)++(z05 T time (rs.map fun z=>z.2) s).2))\/(s.bf≠0/\z05 T time (zs.map fun z=>z.2) sd0=(s,(dn++rs).map fun z=>z.2)))
theorem zWl.one{T:Nat->Int}{time:Int}{zs dn rs:List Zp}{z:Zp}{s:Sd}(h:zWl T time zs dn (z::rs) s)(h0:s.bf=0)(hid:z.2.id≠0):zWl T time zs (dn++[(z.1,z.2.ran (z.2.run T time))]) rs (s.more z.2 (z.2.run T time)):=by
 refine⟨by rw[<-h.1];simp,?_⟩;rcases h.2 with⟨-,e⟩|⟨e, -⟩
 ·rw[e]
  by_cases c:(z.2.run T time).num=0
  ·refine .inl ⟨by simp[Sd.more,c,h0],?_⟩
   simp[z05,c]
  ·refine .inr ⟨by simp[Sd.more,c,hid],?_⟩
   simp[z05,c]
 exact absurd h0 e
def z13(s:Sd)(v:Value):Array Value:=#[A G s.bf,A G s.num,v,A G s.steps]
structure Rb (w:World) (base c:Nat) (v:Value) (last:Int) (S:List Nat) (T:Nat->Int) (ys:List Zp) (wr:World):Prop where
 ch:ChAt wr base c v last ys
 pg: ∀z,z∈ys->PgOk wr c z.2
 kp:KpS S w wr
 rd:wr.heap[w.heap.size+1]?=some (cT (z13 sd0 (.slice none 0 0)) 96 (0,0))
 td:wr.heap[w.heap.size]?=some (cT (z06 T) 34 (0,0))
section
variable {w wr w':World} {base c:Nat} {v:Value} {last:Int} {S:List Nat} {T:Nat->Int} {ys dn rs:List Zp}
theorem Rb.on(h:Rb w base c v last S T ys wr)(hb:Below 0 wr w')(c1: ∀k,k<w.heap.size->w'.heap[k]?=wr.heap[k]?)(c2: ∀(k:Nat) cs t fz,wr.heap[k]?=some (Obj.cells cs t fz)->t≠2->k≠w.heap.size+1+1->w'.heap[k]?=wr.heap[k]?)(hs: ∀k cs t fz,wr.heap[k]?=some (Obj.cells cs t fz)->k=w.heap.size+1+1->t=96):Rb w base c v last S T ys w':=by
 have c3: ∀(k:Nat) cs t fz,wr.heap[k]?=some (Obj.cells cs t fz)->t≠2->t≠96->w'.heap[k]?=wr.heap[k]?:=fun k cs t fz hk h1 h2=>c2 k cs t fz hk h1 fun e=>h2 (hs k cs t fz hk e);refine⟨h.ch.on hb.size fun k hk hx=>?_,fun z hz=>z8p (h.pg z hz) hb.size fun k cs fz hk=>⟨z1p hk h.ch.box kD,c3 k cs _ fz hk kD kD⟩,⟨h.kp.1.trans hb,fun k hk hn=>(c1 k hk).trans (h.kp.2 k hk hn)⟩,(c2 _ _ _ _ h.rd kD kO).trans h.rd,(c2 _ _ _ _ h.td kD kO).trans h.td⟩;rcases hx with rfl|hx|⟨z,hz,rfl⟩
 ·exact c3 _ _ _ _ h.ch.box kD kD
 ·rcases h.ch.row.2 with⟨rfl, -⟩|⟨g,cp,cur,rfl, -,hg, -⟩
  ·cases hx
  ·cases hx
   exact c3 _ _ _ _ hg kD kD
 exact c3 _ _ _ _ (h.ch.pgs z hz) kD kD
theorem Rb.later(h:Rb w base c v last S T ys wr)(hb:Below wr.heap.size wr w'):Rb w base c v last S T ys w':=by
 refine⟨h.ch.later hb,fun z hz=>(h.pg z hz).later hb,h.kp.trans (KpS.of hb),(hb.block _ (Array.getElem?_eq_some_iff.1 h.rd).1).trans h.rd,(hb.block _ (Array.getElem?_eq_some_iff.1 h.td).1).trans h.td⟩
def setL:Array Value->Nat->List Value->Array Value
 |cs,_,[]=>cs
 |cs,o,v::vs=>setL (cs.setIfInBounds o v) (o+1) vs
theorem z6t(b:Nat)(t:TypeId): ∀(vs:List Value)(o:Nat)(w:World)(cs:Array Value),w.heap[b]?=some (cT cs t (0,0))->(w.setCells b o vs).heap[b]?=some (cT (setL cs o vs) t (0,0))
 |[],_,_,_,h=>h
 |x::vs,o,w,cs,h=>z6t b t vs (o+1) (w.setCell ⟨b,o,none⟩ x) _ (heap_setCell_same w b o cs t x h)
theorem zT9(p:Pg)(K:Nat->Int):setL (pgCs p) 3 (z19 K).toList=pgCs {p with tab:=K}:=kR
theorem setTab(p:Pg)(K:Nat->Int)(w:World)(b:Nat)(h:w.heap[b]?=some (cT (pgCs p) 59 (0,0))):(w.setCells b 3 (z19 K).toList).heap[b]?=some (cT (pgCs {p with tab:=K}) 59 (0,0)):=
 (z6t b _ _ 3 w _ h).trans (by rw[zT9])
theorem Rb.tab{z:Zp}(h:Rb w base c v last S T (dn++z::rs) wr)(hd:z5h (dn++z::rs))(hS:z.1∈S)(K:Nat->Int)(hK: ∀i,i<16->In64 (K i)):Rb w base c v last S T (dn++(z.1,{z.2 with tab:=K})::rs) (wr.setCells z.1 3 (z19 K).toList):=by
 have hz:z∈dn++z::rs:=List.mem_append_right _ mcS;have hp:=h.ch.pgs z hz;have o: ∀k,k≠z.1->(wr.setCells z.1 3 (z19 K).toList).heap[k]?=wr.heap[k]?:=fun k hk=>z0y hk _ _;have sm:=z2w z.1 (z19 K).toList 3 wr
 have e:(dn++z::rs).map (fun y=>if y.1=z.1 then(y.1,{y.2 with tab:=K})else y)=dn++(z.1,{z.2 with tab:=K})::rs:=by
  have h': ∀y,y∈dn\/y∈rs->y.1≠z.1:=fun y hy e=>by
   have hn:=hd;simp only[z5h,List.map_append,List.map_cons,List.nodup_append,List.nodup_cons]at hn;rcases hy with hy|hy
   ·exact hn.2.2 _ (List.mem_map.2 ⟨y,hy,rfl⟩) _ mcS e
   ·exact hn.2.1.1 (List.mem_map.2 ⟨y,hy,e⟩)
  rw[List.map_append,List.map_cons,if_pos rfl];congr 1
  ·exact(List.map_congr_left fun y hy=>if_neg (h' y (.inl hy))).trans (List.map_id _)
  ·congr 1
   exact(List.map_congr_left fun y hy=>if_neg (h' y (.inr hy))).trans (List.map_id _)
 have hC:=h.ch.prog hz hd rfl (f:=fun p=>{p with tab:=K}) (setTab z.2 K wr z.1 hp) o;rw[e]at hC;generalize wr.setCells z.1 3 (z19 K).toList=w' at*;refine⟨hC,fun y hy=>?_,⟨⟨sm.2.1.trans h.kp.1.os,sm.2.2.1.trans h.kp.1.tape,sm.2.2.2.trans h.kp.1.output,by rw[sm.1];exact h.kp.1.size,fun k hk=>absurd hk (Nat.not_lt_zero _)⟩,fun k hk hn=>(o k (fun e=>hn (e▸hS))).trans (h.kp.2 k hk hn)⟩,(o _ (z28 h.rd hp kD)).trans h.rd,(o _ (z28 h.td hp kD)).trans h.td⟩;have on: ∀{p:Pg},PgOk wr c p->PgOk w' c p:=fun q=>z8p q (by rw[sm.1];exact Nat.le_refl _) fun k cs fz hk=>⟨z1p hk h.ch.box kD,o k (z1p hk hp kD)⟩;rcases List.mem_append.1 hy with hy|hy
 ·exact on (h.pg y (List.mem_append_left _ hy))
 rcases List.mem_cons.1 hy with rfl|hy
 ·have q:=on (h.pg z hz)
  exact⟨q.lies,q.some,q.few,q.right,q.nums,hK,q.tag⟩
 exact on (h.pg y (List.mem_append_right _ (mcO _ hy)))
end
end
section
set_option maxHeartbeats 40000000
set_option maxRecDepth 1000000
attribute [local simp] dwS z04
structure Rl (w:World) (base c:Nat) (v:Value) (last:Int) (zs:List Zp) (T:Nat->Int) (time:Int) (dn rs:List Zp) (s:Sd) (vo:Value) (wr:World):Prop where
 rt:zWl T time zs dn rs s
 rb:Rb w base c v last (zs.map fun z=>z.1) T (dn++rs) wr
 sd:wr.heap[w.heap.size+1+1]?=some (cT (z13 s vo) 96 (0,0))
 own:wr.ownsRow w.heap.size 2 1 vo s.out.length (s.out.map (Value.int .i64))
 st:0<=s.steps/\s.steps<=200*dn.length/\s.out.length<=50*dn.length
 ids: ∀z,z∈dn++rs->z.2.id≠0
def RunQ(w:World)(base c:Nat)(v:Value)(last:Int)(zs:List Zp)(T:Nat->Int)(time:Int)(e:Ending)(w':World):Prop:=
 ∃vo,e= rT (.agg (z13 (z05 T time (zs.map fun z=>z.2) sd0).1 vo))/\w'.ownsRow w.heap.size 2 1 vo (z05 T time (zs.map fun z=>z.2) sd0).1.out.length ((z05 T time (zs.map fun z=>z.2) sd0).1.out.map (Value.int .i64))/\KpS (zs.map fun z=>z.1) w w'/\ ∃ys,ys.map (fun z=>z.1)=zs.map (fun z=>z.1)/\ys.map (fun z=>z.2)=(z05 T time (zs.map fun z=>z.2) sd0).2/\ChAt w' base c v last ys/\ ∀z,z∈ys->PgOk w' c z.2
theorem only4{w:World}{B:Nat}{x y z u:Value}:z63 B w ((((w.setCell ⟨B,0,none⟩ x).setCell ⟨B,1,none⟩ y).setCell ⟨B,2,none⟩ z).setCell ⟨B,3,none⟩ u):=
 ⟨((((bF _ _).setCell (Nat.zero_le _) _).setCell (Nat.zero_le _) _).setCell (Nat.zero_le _) _).setCell (Nat.zero_le _) _,by simp,fun _ hk=>(heap_setCell_other _ _ _ _ hk).trans ((heap_setCell_other _ _ _ _ hk).trans ((heap_setCell_other _ _ _ _ hk).trans (heap_setCell_other _ _ _ _ hk)))⟩
theorem Rl.end{w wr w':World}{base c:Nat}{v:Value}{last:Int}{zs dn rs:List Zp}{T:Nat->Int}{time:Int}{s:Sd}{vo:Value}(h:Rl w base c v last zs T time dn rs s vo wr)(hs:s.bf≠0\/rs=[])(ho:z63 (w.heap.size+1) wr w'):RunQ w base c v last zs T time (rT (.agg (z13 s vo))) w':=by
 have e:z05 T time (zs.map fun z=>z.2) sd0=(s,(dn++rs).map fun z=>z.2):=by
  rcases h.rt.2 with⟨h0,e⟩|⟨-,e⟩
  ·rcases hs with hs|rfl
   ·exact absurd h0 hs
   ·rw[e];simp[z05]
  ·exact e
 have o:=h.rb;have tg: ∀{k:Nat}{cs:Array Value}{t:TypeId}{fz:Nat×Nat},wr.heap[k]?=some (cT cs t fz)->t≠96->w'.heap[k]?=wr.heap[k]?:=fun hk ht=>ho.2.2 _ (z1p hk o.rd ht);refine⟨vo,by rw[e],?_,⟨o.kp.1.trans ho.1,fun k hk hn=>(ho.2.2 k kO).trans (o.kp.2 k hk hn)⟩,dn++rs,h.rt.1,by rw[e],o.ch.on ho.1.size fun k hk hx=>?_,fun z hz=>z8p (o.pg z hz) ho.1.size fun k cs fz hk=>⟨z1p hk o.ch.box kD,tg hk kD⟩⟩
 ·rw[e]
  exact⟨h.own.1,h.own.2.imp id fun⟨g,cap,cur,e1,e2,e3,e4⟩=>⟨g,cap,cur,e1,e2,(tg e3 kD).trans e3,e4⟩⟩
 rcases hx with rfl|hx|⟨z,hz,rfl⟩
 ·exact tg o.ch.box kD
 ·rcases o.ch.row.2 with⟨rfl, -⟩|⟨g,cp,cur,rfl, -,hg, -⟩
  ·cases hx
  ·cases hx
   exact tg hg kD
 exact tg (o.ch.pgs z hz) kD
theorem zL1{w:World}{b:Nat}{p:Pg}(h:w.heap[b]?=some (cT (pgCs p) 59 (0,0))):w.rangeAt b 3 (z19 p.tab).toList:=fun j x hx=>by
 have hj:j<16:=(List.getElem?_eq_some_iff.1 hx).1;rw[cell_of_row w b (3+j) _ _ _ h];rw[<-hx];rcases(show j=0\/j=1\/j=2\/j=3\/j=4\/j=5\/j=6\/j=7\/j=8\/j=9\/j=10\/j=11\/j=12\/j=13\/j=14\/j=15 by omega)with rfl|rfl|rfl|rfl|rfl|rfl|rfl|rfl|rfl|rfl|rfl|rfl|rfl|rfl|rfl|rfl<;>rfl
theorem zQ5{w:World}{g:Nat}{R:Rn}{v:Value}{t:TypeId}(h:w.heap[g]?=some (cT (rnCs R v) t (0,0))):w.rangeAt g 1 (z19 R.tab).toList:=fun j x hx=>by
 have hj:j<16:=(List.getElem?_eq_some_iff.1 hx).1;rw[cell_of_row w g (1+j) _ _ _ h];rw[<-hx];rcases(show j=0\/j=1\/j=2\/j=3\/j=4\/j=5\/j=6\/j=7\/j=8\/j=9\/j=10\/j=11\/j=12\/j=13\/j=14\/j=15 by omega)with rfl|rfl|rfl|rfl|rfl|rfl|rfl|rfl|rfl|rfl|rfl|rfl|rfl|rfl|rfl|rfl<;>rfl
theorem zU7{w:World}{b:Nat}{p:Pg}(h:w.heap[b]?=some (cT (pgCs p) 59 (0,0))):w.there b 3 16:=fun j hj=>by
 refine⟨?_,by simp[World.frozen?,h]⟩;rw[cell_of_row w b (3+j) _ _ _ h,Array.getElem?_eq_getElem (show 3+j<(pgCs p).size by show 3+j<19;omega)];rfl
theorem Rl.later{w wr w':World}{base c:Nat}{v:Value}{last:Int}{zs dn rs:List Zp}{T:Nat->Int}{time:Int}{s:Sd}{vo:Value}(h:Rl w base c v last zs T time dn rs s vo wr)(hb:Below wr.heap.size wr w'):Rl w base c v last zs T time dn rs s vo w':=
 ⟨h.rt,h.rb.later hb,(hb.block _ (Array.getElem?_eq_some_iff.1 h.sd).1).trans h.sd,z8m h.own hb,h.st,h.ids⟩
theorem Rb.sd{w wr w':World}{base c:Nat}{v:Value}{last:Int}{S:List Nat}{T:Nat->Int}{ys:List Zp}{cs:Array Value}(h:Rb w base c v last S T ys wr)(hs:wr.heap[w.heap.size+1+1]?=some (cT cs 96 (0,0)))(ho:z63 (w.heap.size+1+1) wr w'):Rb w base c v last S T ys w':=
 h.on ho.1 (fun k hk=>ho.2.2 k kO) (fun k cs t fz hk _ hn=>ho.2.2 k hn) fun k cs' t fz hk e=>by
  rw[e,hs]at hk;injection hk with hk
  injection hk with _ hk
  exact hk.symm
theorem Rb.row{w wr w':World}{base c n b:Nat}{v x:Value}{last:Int}{S:List Nat}{T:Nat->Int}{ys:List Zp}{cs:Array Value}{xs:List Value}(h:Rb w base c v last S T ys wr)(hs:wr.heap[w.heap.size+1+1]?=some (cT cs 96 (0,0)))(ho:wr.ownsRow w.heap.size 2 1 x n xs)(hg:wr.grownBy w' x.ownBlock):Rb w base c v last S T ys w'/\ ∀(k:Nat) cs t fz,wr.heap[k]?=some (Obj.cells cs t fz)->t≠2->w'.heap[k]?=wr.heap[k]?:=by
 have tg: ∀(k:Nat) cs t fz,wr.heap[k]?=some (Obj.cells cs t fz)->t≠2->w'.heap[k]?=wr.heap[k]?:=fun k cs t fz hk ht=>hg.block k (Array.getElem?_eq_some_iff.1 hk).1 fun e=>by
  rcases ho.2 with⟨rfl, -⟩|⟨g,c,cur,rfl, -,h', -⟩
  ·cases e
  ·cases e
   exact z1p hk h' ht rfl
 refine⟨h.on ⟨hg.os,hg.tape,hg.output,hg.size,fun k hk=>absurd hk (Nat.not_lt_zero _)⟩ (fun k hk=>hg.block k (Nat.lt_of_lt_of_le hk h.kp.1.size) fun e=>by have:=(World.ownsRow.lt ho k e.symm).1;omega) (fun k cs t fz hk ht _=>tg k cs t fz hk ht) fun k cs' t fz hk e=>?_,tg⟩;rw[e,hs]at hk;injection hk with hk
 injection hk with _ hk
 exact hk.symm
theorem zL2{w w':World}{B b n:Nat}{x:Value}{xs:List Value}{cs:Array Value}(h:w.ownsRow b 2 1 x n xs)(hs:w.heap[B]?=some (cT cs 96 (0,0)))(ho:z63 B w w'):w'.ownsRow b 2 1 x n xs:=⟨h.1,h.2.imp id fun⟨g,cap,cur,e1,e2,e3,e4⟩=>⟨g,cap,cur,e1,e2,(ho.2.2 g (z28 e3 hs kD)).trans e3,e4⟩⟩
theorem zWu{w:World}{B a b:Nat}{x y:Value}:z63 B w ((w.setCell ⟨B,a,none⟩ x).setCell ⟨B,b,none⟩ y):=
 ⟨((bF _ _).setCell (Nat.zero_le _) _).setCell (Nat.zero_le _) _,by simp,fun _ hk=>(heap_setCell_other _ _ _ _ hk).trans (heap_setCell_other _ _ _ _ hk)⟩
theorem Rl.next{w wc w':World}{base c:Nat}{v:Value}{last:Int}{zs dn rs:List Zp}{z:Zp}{T:Nat->Int}{time:Int}{s:Sd}{vo x:Value}{R:Rn}(h:Rl w base c v last zs T time dn (z::rs) s vo wc)(hR:z.2.run T time=R)(b0:s.bf=0)(hB:Rb w base c v last (zs.map fun z=>z.1) T (dn++(z.1,{z.2 with tab:=R.tab})::rs) w')(hs:w'.heap[w.heap.size+1+1]?=some (cT (z13 (s.more z.2 R) x) 96 (0,0)))(ho:w'.ownsRow w.heap.size 2 1 x (s.out.length+R.out.length) (s.out.map (Value.int .i64)++R.out.map (Value.int .i64)))(m1:0<=R.steps)(m2:R.steps<=200)(m3:R.out.length<=50):Rl w base c v last zs T time (dn++[(z.1,z.2.ran R)]) rs (s.more z.2 R) x w':=by
 have hz:z∈dn++z::rs:=List.mem_append_right _ mcS;have e:(dn++[(z.1,z.2.ran R)])++rs=dn++(z.1,{z.2 with tab:=R.tab})::rs:=by rw[List.append_assoc];rfl
 have hst:=h.st;refine⟨hR▸h.rt.one b0 (h.ids z hz),by rw[e];exact hB,hs,?_,?_,fun y hy=>?_⟩
 ·have e1:(s.more z.2 R).out=s.out++R.out:=rfl
  rw[e1,List.length_append,List.map_append];exact ho
 ·have e1:(s.more z.2 R).steps=s.steps+R.steps:=rfl
  have e2:(s.more z.2 R).out=s.out++R.out:=rfl;rw[e1,e2];simp only[List.length_append,lQ,List.length_nil];omega
 rw[e]at hy;rcases List.mem_append.1 hy with hy|hy
 ·exact h.ids y (List.mem_append_left _ hy)
 rcases List.mem_cons.1 hy with rfl|hy
 ·exact h.ids z hz
 exact h.ids y (List.mem_append_right _ (mcO _ hy))
theorem kAl(w:World)(o:Obj):Below w.heap.size w (w.alloc o):=(bF _ _).alloc (Nat.le_refl _) _
theorem zQl{w:World}{b n z g:Nat}{e t:TypeId}{v:Value}{xs:List Value}{cs:Array Value}(h:w.ownsRow b e z v n xs)(hg:w.heap[g]?=some (cT cs t (0,0)))(ht:e≠t):v.ownBlock=some g->False:=fun q=>by
 rcases h.2 with⟨rfl, -⟩|⟨g',c,cur,rfl, -,h', -⟩
 ·cases q
 ·cases q
  exact z28 h' hg ht rfl
theorem kRt{P S:Prop}(q:S)(h:Kont S->P:=by
 intro kq;simp only[pS];refine tkH (i:=11) (some 24) (.tuple #[.agg (rnCs R vb),.agg #[A G er,A G ii]]) rfl rfl (fun V hV=>kG) hM ?_;simp only[pS];refine tkH (i:=12) (some 36) (.agg (rnCs R vb)) rfl rfl (fun V hV=>kG) hM ?_;simp only[pS];refine tkH (i:=13) (some 37) (.agg #[A G er,A G ii]) rfl rfl (fun V hV=>kG) hM ?_;simp only[pS];exact kq.out):P:=h ⟨q⟩
theorem kRe{P:Prop}(h:P:=by
 try simp only[pS]
 have nf:=z28 hB hA kD;have hM1:Mm wr [(z'.1,pgCs z'.2,59),(w.heap.size,z06 T,34)] (we.setRow ga (rnCs R vb)):=⟨z14 hM.b gA _,fun x hx=>(setRow_other _ _ _ _ (by have h:=hM.2 x hx;simp only[List.mem_cons,List.not_mem_nil,or_false]at hx;rcases hx with rfl|rfl<;>exact z28 h hA (by dsimp only;decide))).trans (hM.2 x hx)⟩;have hB1:=(setRow_other we ga gb (rnCs R vb) nf).trans hB;have hA1:=setRow_heap we ga zeroCs (rnCs R vb) 130 (0,0) hA;have hO1:=z58 (cs:=rnCs R vb) hO.out (Nat.le_refl _) (zQl hO.out hA kD);refine wpAnyH_ready (rs:=[16]) kR kS ?_;refine z3b (we.setRow ga (rnCs R vb)) rfl rfl kI (z5p we _ _ ga _ zeroCs _ rfl rfl rfl Tryz.infoDan hA rfl (zDz hO.out)) hM1 ?_ AllReadyH.nil;simp only[pS];generalize we.setRow ga (rnCs R vb)=wf at*;have hM2:Mm wr [(z'.1,pgCs z'.2,59),(w.heap.size,z06 T,34)] (wf.setRow gb #[A G er,A G ii]):=⟨z14 hM1.b gB _,fun x hx=>(setRow_other _ _ _ _ (by have h:=hM1.2 x hx;simp only[List.mem_cons,List.not_mem_nil,or_false]at hx;rcases hx with rfl|rfl<;>exact z28 h hB1 (by dsimp only;decide))).trans (hM1.2 x hx)⟩;refine wpAnyH_ready (rs:=[17]) kR kS ?_;refine z3b (wf.setRow gb #[A G er,A G ii]) rfl rfl kI (z5p wf _ _ gb _ #[A G 0,A G 0] _ rfl rfl rfl Tryz.infoFlt hB1 rfl (zEr er ii)) hM2 ?_ AllReadyH.nil;simp only[pS];refine wpAnyH_done kR ?_ _;go_wp2_with fail;go_meet;exact⟨ga,vb,rfl,hM2.b,gA,(setRow_other _ _ _ _ nf.symm).trans hA1,z58 hO1 (Nat.le_refl _) (zQl hO1 hB1 kD)⟩):P:=h
theorem zG9{w:World}{base c:Nat}{v:Value}{last:Int}{zs:List Zp}(h:ChAt w base c v last zs)(hb:base<=w.heap.size)(h8:zs.length<=8)(hd:z5h zs)(hP: ∀z,z∈zs->PgOk w c z.2)(hid: ∀z,z∈zs->z.2.id≠0)(T:Nat->Int)(time:Int)(hT: ∀i,i<8->In64 (T i))(ht:In64 time):Calls tP 27 #[pT (some ⟨c,0,none⟩),.agg (z06 T),A G time] w (RunQ w base c v last zs T time):=by
 have HS:=rowShape h.row;obtain⟨n,hn⟩: ∃n,Hid (zs.length=n):=⟨_,rfl⟩;rw[hn.out]at HS h8;have n0:(0:Int)<=(n:Int):=kO;have n8:(n:Int)<=8:=kO
 obtain⟨q,qc,hq⟩: ∃q qc,v= .slice q n qc:=by
  rcases HS with⟨rfl,e0⟩|⟨g,cp,rfl⟩
  ·exact⟨_,_,by rw[e0]⟩
  ·exact⟨_,_,rfl⟩
 subst hq;have H0:Hid (∀w1,Mm w [(w.heap.size+1+1,z13 sd0 (.slice none 0 0),96),(w.heap.size+1,z13 sd0 (.slice none 0 0),96),(w.heap.size,z06 T,34)] w1->Rl w base c (.slice q n qc) last zs T time [] zs sd0 (.slice none 0 0) w1):=fun w1 hM=>⟨⟨rfl,.inl ⟨rfl,rfl⟩⟩,⟨h.later hM.b,fun z hz=>(hP z hz).later hM.b,KpS.of hM.b,hM.row kMe,hM.row kMe⟩,hM.row kMe,World.ownsRow_nil _ _ _ _,⟨Int.le_refl _,Int.le_refl _,Nat.le_refl _⟩,hid⟩;replace hT:Hid _:=hT
 replace ht:Hid _:=ht
 replace hd:Hid _:=hd
 clear h hP hid;go_in
 go_upto_region 2 with fail
 refine gnl (W:=w) kMm ?_;intro w1 hM;simp at hM;have HL:Hid _:=H0.out w1 hM;clear hM H0;have F:=(Mm.cons (Mm.start w1) HL.out.rb.ch.box).x;simp only[Mx]at F;go_wp2_with fail;go_loopw [17] (fun jv wr=> ∃j:Nat,jv=A G j/\j<=n/\Hid (∃dn rs s vo,dn.length=j/\Rl w base c (.slice q n qc) last zs T time dn rs s vo wr)) (fun jv _=>n-(intOf jv).toNat)
 case atStart=>exact⟨0,rfl,kO,[],zs,sd0,_,rfl,HL.out⟩
 case round=>
  clear HL F;obtain⟨j,rfl,hj,HQ⟩:=hrel;obtain⟨dn,rs,s,vo,hdn,hR⟩:=HQ.out;have j0:(0:Int)<=(j:Int):=kO;have hlen:dn.length+rs.length=n:=by have:=congrArg List.length hR.rt.1;simpa[hn.out]using this
  obtain⟨va,vn,vc,hv⟩:=z67 hR.own;subst hv;have F:=(Mm.cons (Mm.cons (Mm.cons (Mm.start wr) hR.rb.td) hR.rb.rd) hR.sd).x;simp only[Mx,z13]at F;replace hR:Hid _:=hR
  clear HQ
  by_cases hlt:j<n
  ·have j1:(j:Int)<(n:Int):=kO
   rcases rs with _|⟨z,rs⟩
   ·simp at hlen;omega
   rcases HS with⟨hs,e0⟩|⟨g,cp,hs⟩
   ·exfalso;omega
   cases hs;have hz:z∈dn++z::rs:=List.mem_append_right _ mcS;have h1:=hR.out.rb.ch;rw[show n=(dn++z::rs).length by simpa using hlen.symm]at h1;obtain⟨z',hz',S⟩:=h1.see (j:=j) kZ;obtain rfl:z'=z:=by rw[<-hz'.out.1, <-hdn];exact z9t dn z z0 rs
   have hpz:=h1.pgs z' hz;clear h1 hz';rcases dce s.bf 0 with⟨b0, -⟩|⟨b0, -⟩
   ·have b2:(s.bf !=0)=false:=by simpa using b0.out
    have pc:=z7q z'.2;go_upto_region 6 with fail
    obtain⟨R,HR⟩: ∃R,Hid (z'.2.run T time=R):=⟨_,rfl⟩;go_cut [10,11] (fun r _ wx=> ∃ga vb,r= pT (some ⟨ga,0,none⟩)/\Hid (Below wr.heap.size wr wx/\wr.heap.size<=ga/\wx.heap[ga]?=some (cT (rnCs R vb) 130 (0,0))/\wx.ownsRow wr.heap.size 2 1 vb R.out.length (R.out.map (Value.int .i64))))
    case first=>
     have hM:Mm wr [(z'.1,pgCs z'.2,59),(w.heap.size,z06 T,34)] wr.drew:=Mm.drew (((Mm.start wr).cons hR.out.rb.td).cons hpz);have hP:=hR.out.rb.pg z' hz;clear F S;refine wp_region_held_drew kR hM fun _=>?_;change wpAnyH _ _ _ _ _ 18 (Array.replicate 18 false) _ _
     refine tkH (i:=0) (some 25) (pT (some ⟨z'.1,0,none⟩)) rfl rfl (fun V hV=>kG) hM ?_;simp only[pS];refine tkH (i:=1) (some 26) (pT (some ⟨z'.1,0,none⟩)) rfl rfl (fun V hV=>kG) hM ?_;simp only[pS];refine tkH (i:=2) (some 27) (pT (some ⟨z'.1,2,none⟩)) rfl rfl (fun V hV=>kG) hM ?_;simp only[pS];refine tkH (i:=3) (some 28) z'.2.sl rfl rfl (fun V hV=>kX) hM ?_;simp only[pS];refine tkH (i:=4) (some 29) (.agg (z06 T)) rfl rfl (fun V hV=>z5a (hV.row kMe) rfl rfl) hM ?_;simp only[pS];refine tkH (i:=5) (some 30) (pT (some ⟨z'.1,0,none⟩)) rfl rfl (fun V hV=>kG) hM ?_;simp only[pS];refine tkH (i:=6) (some 31) (pT (some ⟨z'.1,0,none⟩)) rfl rfl (fun V hV=>kG) hM ?_;simp only[pS];refine tkH (i:=7) (some 32) (pT (some ⟨z'.1,3,none⟩)) rfl rfl (fun V hV=>kG) hM ?_;simp only[pS];refine tkH (i:=8) (some 33) (.agg (z19 z'.2.tab)) rfl rfl (fun V hV=>zCs (zL1 (hV.row kMe)) rfl rfl) hM ?_;simp only[pS];refine tkH (i:=9) (some 34) (A G time) rfl rfl (fun V hV=>kG) hM ?_;simp only[pS];generalize wr.drew=wd at*;refine wpAnyH_ready (rs:=[10,14,15]) kR kS ?_;refine z3h (some 35) 41 #[z'.2.sl,.agg (z06 T),.agg (z19 z'.2.tab),A G time] rfl rfl kI kG ?_ (z24 (some 10) (pT (some ⟨wd.heap.size,0,none⟩)) (wd.alloc (cT zeroCs 130)) rfl rfl kI kG (hM.later (kAl _ _)) ?_ (z24 (some 11) (pT (some ⟨wd.heap.size,0,none⟩)) (wd.alloc (cT #[A G 0,A G 0] 75)) rfl rfl kI kG (hM.later (kAl _ _)) ?_ AllReadyH.nil))
     ·refine(z8b (hP.later hM.b) T time hT.out ht.out).mono ?_
      rintro e wd1 ⟨_,rfl,vb,er,ii,rfl,hbz,hO⟩;rw[HR.out]at hO⊢;replace hO:Hid (wd1.ownsRow wr.heap.size 2 1 vb R.out.length (R.out.map (Value.int .i64))):=z42 hO hM.b.size
      replace hM:=hM.later hbz
      refine⟨_,rfl,hM,?_⟩;clear hbz;refine kRt ?_;refine wpAnyH_ready (rs:=[14,15]) kR kS ?_;refine z24 (some 10) (pT (some ⟨wd1.heap.size,0,none⟩)) (wd1.alloc (cT zeroCs 130)) rfl rfl kI kG (hM.later (kAl _ _)) ?_ (z24 (some 11) (pT (some ⟨wd1.heap.size,0,none⟩)) (wd1.alloc (cT #[A G 0,A G 0] 75)) rfl rfl kI kG (hM.later (kAl _ _)) ?_ AllReadyH.nil)
      ·have hA:=heap_alloc_new wd1 (cT zeroCs 130)
       have gA:=hM.b.size;replace hO:Hid ((wd1.alloc (cT zeroCs 130)).ownsRow wr.heap.size 2 1 vb R.out.length (R.out.map (Value.int .i64))):=World.ownsRow.alloc hO.out (cT zeroCs 130)
       replace hM:=hM.later (kAl wd1 (cT zeroCs 130))
       generalize wd1.alloc (cT zeroCs 130)=wd2 at*;generalize wd1.heap.size=ga at*;simp only[pS];refine wpAnyH_ready (rs:=[15]) kR kS ?_;refine z24 (some 11) (pT (some ⟨wd2.heap.size,0,none⟩)) (wd2.alloc (cT #[A G 0,A G 0] 75)) rfl rfl kI kG (hM.later (kAl _ _)) ?_ AllReadyH.nil
       ·have hB:=heap_alloc_new wd2 (cT #[A G 0,A G 0] 75)
        have gB:=hM.b.size;replace hO:Hid ((wd2.alloc (cT #[A G 0,A G 0] 75)).ownsRow wr.heap.size 2 1 vb R.out.length (R.out.map (Value.int .i64))):=World.ownsRow.alloc hO.out (cT #[A G 0,A G 0] 75)
        replace hA:=(heap_alloc_old wd2 (cT #[A G 0,A G 0] 75) (Array.getElem?_eq_some_iff.1 hA).1).trans hA
        replace hM:=hM.later (kAl wd2 (cT #[A G 0,A G 0] 75))
        generalize wd2.alloc (cT #[A G 0,A G 0] 75)=we at*;generalize wd2.heap.size=gb at*;exact kRe
      ·have hB:=heap_alloc_new wd1 (cT #[A G 0,A G 0] 75)
       have gB:=hM.b.size;replace hO:Hid ((wd1.alloc (cT #[A G 0,A G 0] 75)).ownsRow wr.heap.size 2 1 vb R.out.length (R.out.map (Value.int .i64))):=World.ownsRow.alloc hO.out (cT #[A G 0,A G 0] 75)
       replace hM:=hM.later (kAl wd1 (cT #[A G 0,A G 0] 75))
       generalize wd1.alloc (cT #[A G 0,A G 0] 75)=wd2 at*;generalize wd1.heap.size=gb at*;simp only[pS];refine wpAnyH_ready (rs:=[14]) kR kS ?_;refine z24 (some 10) (pT (some ⟨wd2.heap.size,0,none⟩)) (wd2.alloc (cT zeroCs 130)) rfl rfl kI kG (hM.later (kAl _ _)) ?_ AllReadyH.nil
       ·have hA:=heap_alloc_new wd2 (cT zeroCs 130)
        have gA:=hM.b.size;replace hO:Hid ((wd2.alloc (cT zeroCs 130)).ownsRow wr.heap.size 2 1 vb R.out.length (R.out.map (Value.int .i64))):=World.ownsRow.alloc hO.out (cT zeroCs 130)
        replace hB:=(heap_alloc_old wd2 (cT zeroCs 130) (Array.getElem?_eq_some_iff.1 hB).1).trans hB
        replace hM:=hM.later (kAl wd2 (cT zeroCs 130))
        generalize wd2.alloc (cT zeroCs 130)=we at*;generalize wd2.heap.size=ga at*;exact kRe
     ·have hA:=heap_alloc_new wd (cT zeroCs 130)
      have gA:=hM.b.size;replace hM:=hM.later (kAl wd (cT zeroCs 130))
      generalize wd.alloc (cT zeroCs 130)=wd1 at*;generalize wd.heap.size=ga at*;simp only[pS];refine wpAnyH_ready (rs:=[10,15]) kR kS ?_;refine z3h (some 35) 41 #[z'.2.sl,.agg (z06 T),.agg (z19 z'.2.tab),A G time] rfl rfl kI kG ?_ (z24 (some 11) (pT (some ⟨wd1.heap.size,0,none⟩)) (wd1.alloc (cT #[A G 0,A G 0] 75)) rfl rfl kI kG (hM.later (kAl _ _)) ?_ AllReadyH.nil)
      ·refine(z8b (hP.later hM.b) T time hT.out ht.out).mono ?_
       rintro e wd2 ⟨_,rfl,vb,er,ii,rfl,hbz,hO⟩;rw[HR.out]at hO⊢;replace hO:Hid (wd2.ownsRow wr.heap.size 2 1 vb R.out.length (R.out.map (Value.int .i64))):=z42 hO hM.b.size
       replace hA:=(hbz.block _ (Array.getElem?_eq_some_iff.1 hA).1).trans hA
       replace hM:=hM.later hbz
       refine⟨_,rfl,hM,?_⟩;clear hbz;refine kRt ?_;refine wpAnyH_ready (rs:=[15]) kR kS ?_;refine z24 (some 11) (pT (some ⟨wd2.heap.size,0,none⟩)) (wd2.alloc (cT #[A G 0,A G 0] 75)) rfl rfl kI kG (hM.later (kAl _ _)) ?_ AllReadyH.nil
       ·have hB:=heap_alloc_new wd2 (cT #[A G 0,A G 0] 75)
        have gB:=hM.b.size;replace hA:=(heap_alloc_old wd2 (cT #[A G 0,A G 0] 75) (Array.getElem?_eq_some_iff.1 hA).1).trans hA
        replace hO:Hid ((wd2.alloc (cT #[A G 0,A G 0] 75)).ownsRow wr.heap.size 2 1 vb R.out.length (R.out.map (Value.int .i64))):=World.ownsRow.alloc hO.out (cT #[A G 0,A G 0] 75)
        replace hM:=hM.later (kAl wd2 (cT #[A G 0,A G 0] 75))
        generalize wd2.alloc (cT #[A G 0,A G 0] 75)=we at*;generalize wd2.heap.size=gb at*;exact kRe
      ·have hB:=heap_alloc_new wd1 (cT #[A G 0,A G 0] 75)
       have gB:=hM.b.size;replace hA:=(heap_alloc_old wd1 (cT #[A G 0,A G 0] 75) (Array.getElem?_eq_some_iff.1 hA).1).trans hA
       replace hM:=hM.later (kAl wd1 (cT #[A G 0,A G 0] 75))
       generalize wd1.alloc (cT #[A G 0,A G 0] 75)=wd2 at*;generalize wd1.heap.size=gb at*;simp only[pS];refine wpAnyH_ready (rs:=[10]) kR kS ?_;refine z3h (some 35) 41 #[z'.2.sl,.agg (z06 T),.agg (z19 z'.2.tab),A G time] rfl rfl kI kG ?_ AllReadyH.nil
       ·refine(z8b (hP.later hM.b) T time hT.out ht.out).mono ?_
        rintro e we ⟨_,rfl,vb,er,ii,rfl,hbz,hO⟩;rw[HR.out]at hO⊢;replace hO:Hid (we.ownsRow wr.heap.size 2 1 vb R.out.length (R.out.map (Value.int .i64))):=z42 hO hM.b.size
        replace hA:=(hbz.block _ (Array.getElem?_eq_some_iff.1 hA).1).trans hA
        replace hB:=(hbz.block _ (Array.getElem?_eq_some_iff.1 hB).1).trans hB
        replace hM:=hM.later hbz
        refine⟨_,rfl,hM,?_⟩;clear hbz;refine kRt ?_;exact kRe
     ·have hB:=heap_alloc_new wd (cT #[A G 0,A G 0] 75)
      have gB:=hM.b.size;replace hM:=hM.later (kAl wd (cT #[A G 0,A G 0] 75))
      generalize wd.alloc (cT #[A G 0,A G 0] 75)=wd1 at*;generalize wd.heap.size=gb at*;simp only[pS];refine wpAnyH_ready (rs:=[10,14]) kR kS ?_;refine z3h (some 35) 41 #[z'.2.sl,.agg (z06 T),.agg (z19 z'.2.tab),A G time] rfl rfl kI kG ?_ (z24 (some 10) (pT (some ⟨wd1.heap.size,0,none⟩)) (wd1.alloc (cT zeroCs 130)) rfl rfl kI kG (hM.later (kAl _ _)) ?_ AllReadyH.nil)
      ·refine(z8b (hP.later hM.b) T time hT.out ht.out).mono ?_
       rintro e wd2 ⟨_,rfl,vb,er,ii,rfl,hbz,hO⟩;rw[HR.out]at hO⊢;replace hO:Hid (wd2.ownsRow wr.heap.size 2 1 vb R.out.length (R.out.map (Value.int .i64))):=z42 hO hM.b.size
       replace hB:=(hbz.block _ (Array.getElem?_eq_some_iff.1 hB).1).trans hB
       replace hM:=hM.later hbz
       refine⟨_,rfl,hM,?_⟩;clear hbz;refine kRt ?_;refine wpAnyH_ready (rs:=[14]) kR kS ?_;refine z24 (some 10) (pT (some ⟨wd2.heap.size,0,none⟩)) (wd2.alloc (cT zeroCs 130)) rfl rfl kI kG (hM.later (kAl _ _)) ?_ AllReadyH.nil
       ·have hA:=heap_alloc_new wd2 (cT zeroCs 130)
        have gA:=hM.b.size;replace hB:=(heap_alloc_old wd2 (cT zeroCs 130) (Array.getElem?_eq_some_iff.1 hB).1).trans hB
        replace hO:Hid ((wd2.alloc (cT zeroCs 130)).ownsRow wr.heap.size 2 1 vb R.out.length (R.out.map (Value.int .i64))):=World.ownsRow.alloc hO.out (cT zeroCs 130)
        replace hM:=hM.later (kAl wd2 (cT zeroCs 130))
        generalize wd2.alloc (cT zeroCs 130)=we at*;generalize wd2.heap.size=ga at*;exact kRe
      ·have hA:=heap_alloc_new wd1 (cT zeroCs 130)
       have gA:=hM.b.size;replace hB:=(heap_alloc_old wd1 (cT zeroCs 130) (Array.getElem?_eq_some_iff.1 hB).1).trans hB
       replace hM:=hM.later (kAl wd1 (cT zeroCs 130))
       generalize wd1.alloc (cT zeroCs 130)=wd2 at*;generalize wd1.heap.size=ga at*;simp only[pS];refine wpAnyH_ready (rs:=[10]) kR kS ?_;refine z3h (some 35) 41 #[z'.2.sl,.agg (z06 T),.agg (z19 z'.2.tab),A G time] rfl rfl kI kG ?_ AllReadyH.nil
       ·refine(z8b (hP.later hM.b) T time hT.out ht.out).mono ?_
        rintro e we ⟨_,rfl,vb,er,ii,rfl,hbz,hO⟩;rw[HR.out]at hO⊢;replace hO:Hid (we.ownsRow wr.heap.size 2 1 vb R.out.length (R.out.map (Value.int .i64))):=z42 hO hM.b.size
        replace hB:=(hbz.block _ (Array.getElem?_eq_some_iff.1 hB).1).trans hB
        replace hA:=(hbz.block _ (Array.getElem?_eq_some_iff.1 hA).1).trans hA
        replace hM:=hM.later hbz
        refine⟨_,rfl,hM,?_⟩;clear hbz;refine kRt ?_;exact kRe
    case rest=>
     obtain⟨ga,vb,rfl,HW⟩:=hcut;have hL:=hR.out.later HW.out.1;have hp:=hL.rb.ch.pgs z' hz;have hg:=HW.out.2.2.1;have hr:=HW.out.2.2.2;have hRK: ∀i,i<16->In64 (R.tab i):=by rw[<-HR.out];exact((hL.rb.pg z' hz).small T time hT.out ht.out).2.2.2.1
     have hap:z5h (dn++z'::rs):=by unfold z5h;rw[hL.rt.1];exact hd.out
     go_upto_region 7 with fail
     go_step;refine kGv ?_;refine kGv ?_;refine wpList_load_mid rfl 55 (.tmp 39) rfl ga 1 rfl (z19 R.tab).toList _ (zQ5 hg) Tryz.underlying55 rfl (by rw[Tryz.info55];rfl) ?_;rw[Array.toArray_toList];simp only[pS];refine kGv ?_;refine kGv ?_;refine wpList_store_mid rfl 55 (.tmp 42) (.tmp 40) rfl z'.1 3 (z19 R.tab) rfl rfl (zU7 hp) Tryz.info55 (z5n _) ?_;simp only[pS];have o: ∀k,k≠z'.1->(wc.setCells z'.1 3 (z19 R.tab).toList).heap[k]?=wc.heap[k]?:=fun k hk=>z0y hk _ _;have hB7:=hL.rb.tab hap (by rw[<-hL.rt.1];exact List.mem_map.2 ⟨z',hz,rfl⟩) R.tab hRK;have hs7:=(o _ (z28 hL.sd hp kD)).trans hL.sd;have hg7:=(o _ (z28 hg hp kD)).trans hg;have own7: ∀{b n:Nat}{x:Value}{xs:List Value},wc.ownsRow b 2 1 x n xs->(wc.setCells z'.1 3 (z19 R.tab).toList).ownsRow b 2 1 x n xs:=fun h=>⟨h.1,h.2.imp id fun⟨g,cap,cur,e1,e2,e3,e4⟩=>⟨g,cap,cur,e1,e2,(o g (z28 e3 hp kD)).trans e3,e4⟩⟩;have ho7:=own7 hL.own;have hr7:=own7 hr;have hz7:=(z2w z'.1 (z19 R.tab).toList 3 wc).1;have hst:=hL.st;clear own7 hg hr hp o F S;generalize wc.setCells z'.1 3 (z19 R.tab).toList=w7 at*;obtain⟨qb,qn,qd,hvb⟩:=z67 hr7;subst hvb;have F:=(Mm.cons (Mm.cons (Mm.start w7) hg7) hs7).x;simp only[Mx,z13,rnCs]at F;go_upto_region 8 with fail
     go_step;refine kGv ?_;refine kGv ?_;refine kGv ?_;refine kGv ?_;have hsm:=((hL.rb.pg z' hz).small T time hT.out ht.out);rw[HR.out]at hsm;obtain⟨m1,m2,m3, -, -, -⟩:=hsm;obtain⟨i0,hi0,hz0,hz1,hz2⟩:=info_parts Tryz.infoI;refine z4v w7 rfl (.tmp 44) (.tmp 46) 91 rfl w.heap.size 2 i0 (A G 0) 1 8 Tryz.underlying91 hi0 hz0 hz1 hz2 rfl kD _ _ _ rfl ho7 wr.heap.size _ _ _ rfl hr7 (by intro u hu;obtain⟨x, -,rfl⟩:=List.mem_map.1 hu;rfl) (by unfold maxLen;omega) kO (by have:=hB7.kp.1.size;omega) ?_;intro v8 w8 ho8 hg8;simp only[pS];obtain⟨hB8,tg⟩:=hB7.row (b:=0) hs7 ho7 hg8;have hs8:=(tg _ _ _ _ hs7 kD).trans hs7;have hg8':=(tg _ _ _ _ hg7 kD).trans hg7;obtain⟨qe,qm,qf,hv8⟩:=z67 ho8;subst hv8;have e9:IntKind.i64.wrap (s.steps+R.steps)=s.steps+R.steps:=by rw[IntWalk.i64_left,z08 kO kO]
     clear F hs7 hg7 hB7 ho7 hr7 hg8 tg hi0 hz0 hz1 hz2 i0;have F:=(Mm.cons (Mm.cons (Mm.start w8) hg8') hs8).x;simp only[Mx,z13,rnCs]at F;have ng:ga≠w.heap.size+1+1:=z28 hg8' hs8 kD;go_upto_region 10 with fail
     have hO:=zWu (w:=w8) (B:=w.heap.size+1+1) (a:=2) (b:=3) (x:= .slice qe qm qf) (y:=A G (s.steps+R.steps));have hB10:=hB8.sd hs8 hO;have hs10:((w8.setCell ⟨w.heap.size+1+1,2,none⟩ (.slice qe qm qf)).setCell ⟨w.heap.size+1+1,3,none⟩ (A G (s.steps+R.steps))).heap[w.heap.size+1+1]?=some (cT #[A G s.bf,A G s.num,.slice qe qm qf,A G (s.steps+R.steps)] 96 (0,0)):=heap_setCell_same _ _ _ _ _ _ (heap_setCell_same _ _ _ _ _ _ hs8);have hg10:=(hO.2.2 ga ng).trans hg8';have ho10:=zL2 ho8 hs8 hO;clear F hs8 hg8' hB8 ho8 e9 hO;generalize (w8.setCell ⟨w.heap.size+1+1,2,none⟩ (.slice qe qm qf)).setCell ⟨w.heap.size+1+1,3,none⟩ (A G (s.steps+R.steps))=w10 at*;have F:=(Mm.cons (Mm.cons (Mm.start w10) hg10) hs10).x;simp only[Mx,rnCs]at F;rcases dce R.num 0 with⟨r0, -⟩|⟨r0, -⟩
     ·have r1:(R.num !=0)=false:=by simpa using r0.out
      have HF:Hid _:=hL.next HR.out b0.out hB10 (by simpa[z13,Sd.more,r0.out]using hs10) ho10 m1 m2 m3;clear hB10 ho10 hL hs10 hg10;go_wp2_with fail;go_roundw
      case rel=>exact⟨j+1,by go_num,kO,_,rs,_,_,by simp;omega,HF.out⟩
      case measure=>simp[intOf];omega
     ·have r1:(R.num !=0)=true:=by simpa using r0.out
      go_upto_region 11 with fail
      have hp10:=hB10.ch.pgs _ (List.mem_append_right dn mcS);have px:=z7q {z'.2 with tab:=R.tab};have nz:z'.1≠w.heap.size+1+1:=z28 hp10 hs10 kD;refine wp_region_held_drew (S:=fun U=>U.heap[z'.1]?=some (cT (pgCs {z'.2 with tab:=R.tab}) 59 (0,0))/\U.heap[ga]?=some (cT (rnCs R (.slice qb qn qd)) 130 (0,0))) kR ⟨hp10,hg10⟩ fun _=>?_;change wpAnyH _ _ _ _ _ 10 (Array.replicate 10 false) _ _
      have hS:w10.drew.heap[z'.1]?=some (cT (pgCs {z'.2 with tab:=R.tab}) 59 (0,0))/\w10.drew.heap[ga]?=some (cT (rnCs R (.slice qb qn qd)) 130 (0,0)):=⟨hp10,hg10⟩;have hs11:w10.drew.heap[w.heap.size+1+1]?=some (cT #[A G s.bf,A G s.num,.slice qe qm qf,A G (s.steps+R.steps)] 96 (0,0)):=hs10;have hB11:=hB10.later ((bF w10.heap.size w10).drew);have ho11:=z8m ho10 ((bF w10.heap.size w10).drew);clear F hs10 hB10 ho10 hp10 hg10;generalize w10.drew=wd at*;refine kTk 0 58 (pT (some ⟨z'.1,0,none⟩)) ?_;refine kTk 1 59 (pT (some ⟨z'.1,0,none⟩)) ?_;refine kTk 2 60 (pT (some ⟨z'.1,0,none⟩)) ?_;refine tkH (i:=3) (some 61) (A G z'.2.id) rfl rfl (fun V hV=>by have F:=(Mm.cons (Mm.start V) hV.1).x;simp only[Mx]at F;go_simp) hS ?_;simp only[pS];refine kTk 4 62 (pT (some ⟨ga,0,none⟩)) ?_;refine tkH (i:=5) (some 63) (A G R.num) rfl rfl (fun V hV=>by have F:=(Mm.cons (Mm.start V) hV.2).x;simp only[Mx,rnCs]at F;go_simp) hS ?_;simp only[pS];refine kTk 6 64 (pT (some ⟨w.heap.size+1+1,0,none⟩)) ?_;have o: ∀{W:World}{i:Nat}{x:Value},(W.heap[z'.1]?=some (cT (pgCs {z'.2 with tab:=R.tab}) 59 (0,0))/\W.heap[ga]?=some (cT (rnCs R (.slice qb qn qd)) 130 (0,0)))->((W.setCell ⟨w.heap.size+1+1,i,none⟩ x).heap[z'.1]?=some (cT (pgCs {z'.2 with tab:=R.tab}) 59 (0,0))/\(W.setCell ⟨w.heap.size+1+1,i,none⟩ x).heap[ga]?=some (cT (rnCs R (.slice qb qn qd)) 130 (0,0))):=fun h=>⟨(heap_setCell_other _ _ _ _ nz).trans h.1,(heap_setCell_other _ _ _ _ ng).trans h.2⟩;have F:=(Mm.cons (Mm.start wd) hs11).x;simp only[Mx]at F;refine wpAnyH_ready (rs:=[7]) kR kS ?_;refine z3b (wd.setCell ⟨w.heap.size+1+1,0,none⟩ (A G z'.2.id)) rfl rfl kI (by go_simp) (o hS) ?_ AllReadyH.nil;simp only[pS];have hs12:=heap_setCell_same wd (w.heap.size+1+1) 0 _ _ (A G z'.2.id) hs11;refine tkH (i:=8) (some 65) (pT (some ⟨w.heap.size+1+1,1,none⟩)) rfl rfl (fun V hV=>kG) (o hS) ?_;simp only[pS];clear F;have F:=(Mm.cons (Mm.start (wd.setCell ⟨w.heap.size+1+1,0,none⟩ (A G z'.2.id))) hs12).x;simp only[Mx]at F;refine wpAnyH_ready (rs:=[9]) kR kS ?_;refine z3b ((wd.setCell ⟨w.heap.size+1+1,0,none⟩ (A G z'.2.id)).setCell ⟨w.heap.size+1+1,1,none⟩ (A G R.num)) rfl rfl kI (by go_simp) (o (o hS)) ?_ AllReadyH.nil;simp only[pS];refine wpAnyH_done kR ?_ _;have hO:=zWu (w:=wd) (B:=w.heap.size+1+1) (a:=0) (b:=1) (x:=A G z'.2.id) (y:=A G R.num);have HF:Hid _:=hL.next HR.out b0.out (hB11.sd hs11 hO) (by have:=heap_setCell_same _ _ 1 _ _ (A G R.num) hs12;simpa[z13,Sd.more,r0.out]using this) (zL2 ho11 hs11 hO) m1 m2 m3;clear hB11 ho11 hL hs11 hs12 hO o F hS;generalize (wd.setCell ⟨w.heap.size+1+1,0,none⟩ (A G z'.2.id)).setCell ⟨w.heap.size+1+1,1,none⟩ (A G R.num)=wf at*;go_wp2_with fail;go_roundw
      case rel=>exact⟨j+1,by go_num,kO,_,rs,_,_,by simp;omega,HF.out⟩
      case measure=>simp[intOf];omega
   ·have b2:(s.bf !=0)=true:=by simpa using b0.out
    go_wp2_with fail;exact bodyPost_ret (by simp[results,Tryz.results27,go_sem, *];try rfl) rfl (hR.out.end (.inl b0.out) only4)
  ·have j1:decide ((j:Int)<(n:Int))=false:=kZ
   have hr0:rs=[]:=List.eq_nil_of_length_eq_zero kO;go_wp2_with fail;exact bodyPost_ret (by simp[results,Tryz.results27,go_sem, *];try rfl) rfl (hR.out.end (.inr hr0) only4)
end
section
set_option maxHeartbeats 4000000
theorem zFs: ∀(vs:List Value)(cs:Array Value)(o:Nat),(setL cs o vs).size=cs.size
 |[],_,_=>rfl
 |v::vs,cs,o=>by rw[setL,zFs vs];simp
theorem zKt: ∀(vs:List Value)(cs:Array Value)(o i:Nat),o+vs.length<=cs.size->(setL cs o vs)[i]?=if o<=i/\i<o+vs.length then vs[i-o]? else cs[i]?
 |[],cs,o,i,_=>by rw[setL,if_neg (by rw[List.length_nil];omega)]
 |v::vs,cs,o,i,h=>by
  rw[lQ]at h;rw[setL,zKt vs _ _ _ kZ,lQ]
  by_cases e:i=o
  ·subst e
   rw[if_neg kO,if_pos ⟨Nat.le_refl _,by omega⟩,Nat.sub_self,Array.getElem?_setIfInBounds,if_pos rfl,if_pos kO];rfl
  ·by_cases e2:o+1<=i/\i<o+1+vs.length
   ·rw[if_pos e2,if_pos kO,show i-o=(i-(o+1))+1 by omega]
    rfl
   ·rw[if_neg e2,if_neg kO,Array.getElem?_setIfInBounds,if_neg (fun h=>e h.symm)]
def evCs(evs:List (Nat->Int)):List Value:=(evs.map fun T=>(z06 T).toList).flatten
theorem zH6(evs:List (Nat->Int))(T:Nat->Int):evCs (evs++[T])=evCs evs++(z06 T).toList:=by simp[evCs]
theorem zEt: ∀evs:List (Nat->Int),(evCs evs).length=evs.length*8
 |[]=>rfl
 |T::evs=>by
  show((z06 T).toList++evCs evs).length=_;rw[List.length_append,zEt evs,lQ];show 8+_=_;omega
def EvAt(w:World)(base:Nat)(v:Value)(evs:List (Nat->Int)):Prop:=
 (v= .slice none 0 0/\evs=[])\/ ∃b off cap cs,v= .slice (some ⟨b,off,none⟩) evs.length cap/\evs.length<=cap/\base<=b/\w.heap[b]?=some (cT cs 34 (0,0))/\(cap=0\/off+cap*8<=cs.size)/\ ∀j u,(evCs evs)[j]?=some u->cs[off+j]?=some u
theorem EvAt.on{w w':World}{base:Nat}{v:Value}{evs:List (Nat->Int)}(h:EvAt w base v evs)(hb: ∀g cs,v.ownBlock=some g->w.heap[g]?=some (cT cs 34 (0,0))->w'.heap[g]?=w.heap[g]?):EvAt w' base v evs:=
 h.imp id fun⟨b,off,cap,cs,e,h1,h2,h3,h4⟩=>⟨b,off,cap,cs,e,h1,h2,(hb b cs (by rw[e];rfl) h3).trans h3,h4⟩
theorem EvAt.own{w:World}{base base':Nat}{v:Value}{evs:List (Nat->Int)}(h:w.ownsRow base' 34 8 v evs.length (evCs evs))(hb:base<=base'):EvAt w base v evs:=by
 rcases h.2 with⟨e,e0⟩|⟨g,cap,cur,e,h1,h2,h3,h4,h5,h6⟩
 ·exact .inl ⟨e,List.eq_nil_of_length_eq_zero e0⟩
 refine .inr ⟨g,0,cap,cur,e,h3,by omega,h2,.inr kO,fun j u hj=>?_⟩;rw[Nat.zero_add, <-Array.getElem?_toList];rw[<-h6]at hj;have hl:=(List.getElem?_eq_some_iff.1 hj).1;rw[List.length_take]at hl;rw[List.getElem?_take_of_lt kO]at hj;exact hj
theorem Tryz.infoTold:(Tryz.prog.info? 34).map (fun i=>(i.zero,i.size,i.bytes))=some (some (.agg z44),8,64):=kR
theorem zKr(T:Nat->Int): ∀u,u∈(z06 T).toList->u.oneCell'=true:=by
 intro u hu;simp only[z06,List.mem_cons,List.not_mem_nil,or_false]at hu;rcases hu with rfl|rfl|rfl|rfl|rfl|rfl|rfl|rfl<;>rfl
theorem zPz{w:World}{base:Nat}{v:Value}{evs:List (Nat->Int)}(T:Nat->Int)(h:EvAt w base v evs)(h20:evs.length<20)(hb:base<=w.heap.size): ∃v' w',(Builtin.append_ #[41,41] 41 #[v,.slice (some ⟨w.heap.size,0,none⟩) 1 1]).run tP (w.alloc (cT (z06 T) 34))= .ok v' w'/\EvAt w' base v' (evs++[T])/\Below 0 w w'/\(v'.ownBlock=v.ownBlock\/ ∃g,v'.ownBlock=some g/\w.heap.size<=g)/\ ∀k,k<w.heap.size->some k≠v.ownBlock->w'.heap[k]?=w.heap[k]?:=by
 obtain⟨i0,hi0,hz0,hz1,hz2⟩:=info_parts Tryz.infoTold;have hnews: ∀j u,(z06 T).toList[j]?=some u->(w.alloc (cT (z06 T) 34)).cell? ((⟨w.heap.size,0,none⟩:Addr).add j)=some u:=z4y w (z06 T) 34;have hw1:(w.alloc (cT (z06 T) 34)).heap.size=w.heap.size+1:=by simp
 have old: ∀k,k<w.heap.size->(w.alloc (cT (z06 T) 34)).heap[k]?=w.heap[k]?:=fun k hk=>heap_alloc_old w _ hk;have b1:Below 0 w (w.alloc (cT (z06 T) 34)):=(bF _ _).alloc (Nat.zero_le _) _;generalize w.alloc (cT (z06 T) 34)=w1 at*;have hl8:(z06 T).toList.length=1*8:=rfl;rcases h with⟨rfl,rfl⟩|⟨b,off,cap,cs,rfl,c1,c2,c3,c4,c5⟩
 ·obtain⟨v5,w5,hr5,ho5,hg5, -,hat5⟩:=run_append_own_at (P:=tP) w1 w.heap.size 41 41 34 i0 (.agg z44) 8 64 Tryz.underlying41 hi0 hz0 hz1 hz2 rfl kD (.slice none 0 0) 0 [] (World.ownsRow_nil _ _ _ _) ⟨w.heap.size,0,none⟩ 1 1 (z06 T).toList hl8 hnews (zKr T) (by unfold maxLen;omega) kO kO
  refine⟨v5,w5,hr5,EvAt.own (evs:=[]++[T]) (by simpa[evCs]using ho5) hb,b1.trans ⟨hg5.os,hg5.tape,hg5.output,hg5.size,fun k hk=>absurd hk (Nat.not_lt_zero _)⟩,?_,fun k hk _=>(hg5.block k kO (by simp[Value.ownBlock])).trans (old k hk)⟩;rcases hat5 with e|e
  ·exact .inl e
  ·exact .inr ⟨_,e,by omega⟩
 have hbl:=(Array.getElem?_eq_some_iff.1 c3).1;have c3':=(old b hbl).trans c3;have el:=zEt evs
 have olds: ∀j u,(evCs evs)[j]?=some u->w1.cell? ((⟨b,off,none⟩:Addr).add j)=some u:=fun j u hj=>by
  rw[Addr.add_mid,cell_of_row w1 b (off+j) _ _ _ c3'];exact c5 j u hj
 by_cases hr:evs.length+1<=cap
 ·have hsz:off+cap*8<=cs.size:=c4.resolve_left kO
  have hat: ∀j,j<8->off+evs.length*8+j<cs.size:=fun j hj=>by
   have:(evs.length+1)*8<=cap*8:=Nat.mul_le_mul_right _ hr;omega
  have hrun:=run_append_room_cells (P:=tP) w1 41 41 34 i0 Tryz.underlying41 hi0 b off evs.length cap ⟨w.heap.size,0,none⟩ 1 1 (z06 T).toList (by rw[hz1];exact hl8) hnews (zKr T) hr (fun j hj=>by rw[hz1,cell_of_row w1 b _ _ _ _ c3',Array.getElem?_eq_getElem (hat j hj)];rfl) (fun j hj=>by rw[hz1];simp[World.frozen?,c3']);rw[hz1]at hrun;have sm:=z2w b (z06 T).toList (off+evs.length*8) w1;refine⟨_,_,hrun,.inr ⟨b,off,cap,_,by rw[List.length_append];rfl,by rw[List.length_append];exact hr,c2,z6t b _ (z06 T).toList (off+evs.length*8) w1 cs c3',.inr (by rw[zFs];exact hsz),fun j u hj=>?_⟩,⟨sm.2.1.trans b1.os,sm.2.2.1.trans b1.tape,sm.2.2.2.trans b1.output,by rw[sm.1];exact b1.size,fun k hk=>absurd hk (Nat.not_lt_zero _)⟩,.inl rfl,fun k hk hn=>(z0y (fun e=>hn (by rw[e];rfl)) _ _).trans (old k hk)⟩;rw[zKt _ _ _ _ (by have:=hat 7 kD;show _+8<=_;omega)];rw[zH6]at hj
  by_cases hjo:j<(evCs evs).length
  ·rw[if_neg kO]
   rw[List.getElem?_append_left hjo]at hj;exact c5 j u hj
  ·rw[List.getElem?_append_right kO]at hj
   have:=(List.getElem?_eq_some_iff.1 hj).1;rw[if_pos kO,show off+j-(off+evs.length*8)=j-(evCs evs).length by omega];exact hj
 obtain⟨v5,w5,hr5,ho5,hg5⟩:=run_append_arg_grows (P:=tP) w1 41 41 34 i0 (.agg z44) 8 64 Tryz.underlying41 hi0 hz0 hz1 hz2 rfl kD ⟨b,off,none⟩ evs.length cap (evCs evs) el olds ⟨w.heap.size,0,none⟩ 1 1 (z06 T).toList hl8 hnews kO (by unfold maxLen;omega) kO;refine⟨v5,w5,hr5,EvAt.own (base':=w1.heap.size) (by rw[zH6,List.length_append];exact ho5) kO,b1.trans ⟨hg5.os,hg5.tape,hg5.output,hg5.size,fun k hk=>absurd hk (Nat.not_lt_zero _)⟩,.inr ?_,fun k hk _=>(hg5.block k kO kS).trans (old k hk)⟩;rcases rowShape ho5 with⟨-,e0⟩|⟨g,cp,rfl⟩
 ·omega
 exact⟨g,rfl,by have:=(World.ownsRow.lt ho5 g rfl).1;omega⟩
end
end Go.Proofs.YtabjjgkmegcacaaGreatDoor
