/-
A part of the proof of DeskPieces; its card says what is proved.
-/
import Derived.Test.YtkdflpplamebkaaGreatDoorJp17
import Derived.Test.YtkdflpplamebkaaGreatDoorJp15
set_option maxHeartbeats 40000000
open Go.Value renaming int → A
open Go.IntKind renaming i64 → D
open Go.RowKit.Below renaming alloc → bA, setCell → bS, drew → bD, refl → bF
set_option maxRecDepth 1000000
set_option linter.defProp false
set_option linter.unusedVariables false
set_option linter.unusedSimpArgs false
open Go.Value renaming pointer → pT
open Go.Obj renaming cells → cT
namespace Go.Proofs.YtkdflpplamebkaaGreatDoor
section
open Go.ChangeShapes Go.WideShapes Go.ChangeAt Go.RowKit
section
variable {S B:Nat} {c d s o n p:Int} {r:Bool} {y:Way} {w w1:World}
end
end
section
open Go.ChangeShapes Go.WideShapes Go.ChangeAt Go.RowKit
attribute [local simp] z05 z0a z06
theorem zOq(k:Int)(w:World):zR 210 #[A D k,.agg #[A D (-9223372036854775808),A D 9223372036854775807]] w (.tuple #[.agg #[A D 0,A D 0,A D 0],A D 2]):=by
 go_enter Tryz.func210,Tryz.ntmps210;go_wp2_with fail
 go_region_held3 (fun w'=>w'.cell? ⟨w.heap.size,0,none⟩=some (A D (-9223372036854775808))/\w'.cell? ⟨w.heap.size,1,none⟩=some (A D 9223372036854775807)) (first|(simp[go_sem];done)|(simp[go_sem, *];done)|go_keep) (first
  |(go_at_call 89;refine(z3l _).mono ?_;rintro e w1 ⟨rfl,hb1⟩;have hbw1:Below w.heap.size w w1:=kT hb1;have v6:=z1g hb1 w.heap.size;have v7:=z1g hb1 (w.heap.size+1);(try simp[go_sem]at v6);(try simp[go_sem]at v7)))
 all_goals go_wp2_with fail
 all_goals exact bodyPost_ret (v:= .tuple #[.agg #[A D 0,A D 0,A D 0],A D 2]) (by simp[results,Tryz.results210,go_sem,v7]) rfl ⟨rfl,kB⟩
theorem zY1(k h:Int)(hne: ¬h=9223372036854775807)(w:World):zR 210 #[A D k,.agg #[A D (-9223372036854775808),A D h]] w (.tuple #[.agg #[A D k,A D (-9223372036854775808),A D h],A D 0]):=by
 go_enter Tryz.func210,Tryz.ntmps210;go_wp2_with fail
 go_region_held3 (fun w'=>w'.cell? ⟨w.heap.size,0,none⟩=some (A D (-9223372036854775808))/\w'.cell? ⟨w.heap.size,1,none⟩=some (A D h)) (first|(simp[go_sem];done)|(simp[go_sem, *];done)|go_keep) (first
  |(go_at_call 89;refine(z3l _).mono ?_;rintro e w1 ⟨rfl,hb1⟩;have hbw1:Below w.heap.size w w1:=kT hb1;have v6:=z1g hb1 w.heap.size;have v7:=z1g hb1 (w.heap.size+1);(try simp[go_sem]at v6);(try simp[go_sem]at v7)))
 all_goals go_wp2_with fail
 all_goals exact bodyPost_ret (v:= .tuple #[.agg #[A D k,A D (-9223372036854775808),A D h],A D 0]) (by simp[results,Tryz.results210,go_sem,v7]) rfl ⟨rfl,kB⟩
theorem zY0(k l h:Int)(hne: ¬l= -9223372036854775808)(w:World):zR 210 #[A D k,.agg #[A D l,A D h]] w (.tuple #[.agg #[A D k,A D l,A D h],A D 0]):=by
 go_enter Tryz.func210,Tryz.ntmps210;go_wp2_with fail
 go_region_held3 (fun w'=>w'.cell? ⟨w.heap.size,0,none⟩=some (A D l)/\w'.cell? ⟨w.heap.size,1,none⟩=some (A D h)) (first|(simp[go_sem];done)|(simp[go_sem, *];done)|go_keep) (first
  |(go_at_call 89;refine(z3l _).mono ?_;rintro e w1 ⟨rfl,hb1⟩;have hbw1:Below w.heap.size w w1:=kT hb1;have v6:=z1g hb1 w.heap.size;have v7:=z1g hb1 (w.heap.size+1);(try simp[go_sem]at v6);(try simp[go_sem]at v7)))
 all_goals go_wp2_with fail
 all_goals exact bodyPost_ret (v:= .tuple #[.agg #[A D k,A D l,A D h],A D 0]) (by simp[results,Tryz.results210,go_sem,v7]) rfl ⟨rfl,kB⟩
theorem zEf(k l h:Int)(w:World):zR 210 #[A D k,.agg #[A D l,A D h]] w (.tuple #[(z2e k (l,h)).1.v,A D (z2e k (l,h)).2]):=by
 unfold z2e
 by_cases h1:l= -9223372036854775808
 ·by_cases h2:h=9223372036854775807
  ·rw[if_pos ⟨h1,h2⟩];subst h1;subst h2;exact zOq k w
  ·rw[if_neg (fun e=>h2 e.2)];subst h1;exact zY1 k h h2 w
 rw[if_neg (fun e=>h1 e.1)];exact zY0 k l h h1 w
structure Mk3 (n:Nat) (ak al ah bk bl bh:Int) (w:World):Prop where
 a:w.heap[n]?=some (cT #[A D ak,A D al,A D ah] 192 (0,0))
 b:w.heap[n+1]?=some (cT #[A D bk,A D bl,A D bh] 192 (0,0))
 r:w.heap[n+1+1]?=some (cT #[A D 0,A D 0,A D 0] 192 (0,0))
section
variable {n:Nat} {ak al ah bk bl bh:Int} {w w1:World}
theorem Mk3.lt(h:Mk3 n ak al ah bk bl bh w):n+1+1<w.heap.size:=(Array.getElem?_eq_some_iff.1 h.r).1
theorem Mk3.later(h:Mk3 n ak al ah bk bl bh w)(hb:Below w.heap.size w w1):Mk3 n ak al ah bk bl bh w1:=by
 have:=h.lt;exact⟨(hb.block _ kO).trans h.a,(hb.block _ kO).trans h.b,(hb.block _ kO).trans h.r⟩
theorem Mk3.drew(h:Mk3 n ak al ah bk bl bh w):Mk3 n ak al ah bk bl bh w.drew:=⟨h.a,h.b,h.r⟩
theorem Mk3.drewN(h:Mk3 n ak al ah bk bl bh w)(k:Nat):Mk3 n ak al ah bk bl bh (w.drewN k):=⟨h.a,h.b,h.r⟩
theorem kM(h:Mk3 n ak al ah bk bl bh w:=by repeat' first|with_reducible assumption|with_reducible(first|refine Mk3.drew ?_|refine Mk3.drewN ?_ _)):Mk3 n ak al ah bk bl bh w:=h
theorem Mk3.cells(h:Mk3 n ak al ah bk bl bh w):w.cell? ⟨n,0,none⟩=some (A D ak)/\w.cell? ⟨n,1,none⟩=some (A D al)/\w.cell? ⟨n,2,none⟩=some (A D ah)/\w.cell? ⟨n+1,0,none⟩=some (A D bk)/\w.cell? ⟨n+1,1,none⟩=some (A D bl)/\w.cell? ⟨n+1,2,none⟩=some (A D bh)/\w.cell? ⟨n+1+1,0,none⟩=some (A D 0)/\w.cell? ⟨n+1+1,1,none⟩=some (A D 0)/\w.cell? ⟨n+1+1,2,none⟩=some (A D 0)/\w.frozen? ⟨n+1+1,0,none⟩=false/\w.frozen? ⟨n+1+1,1,none⟩=false/\w.frozen? ⟨n+1+1,2,none⟩=false/\n+1+1<w.heap.size:=by
 have e1:=h.a;have e2:=h.b;have e3:=h.r;exact⟨by simp[World.cell?,e1],by simp[World.cell?,e1],by simp[World.cell?,e1],by simp[World.cell?,e2],by simp[World.cell?,e2],by simp[World.cell?,e2],by simp[World.cell?,e3],by simp[World.cell?,e3],by simp[World.cell?,e3],by simp[World.frozen?,e3],by simp[World.frozen?,e3],by simp[World.frozen?,e3],h.lt⟩
theorem Mk3.start(w:World)(ak al ah bk bl bh:Int):Mk3 w.heap.size ak al ah bk bl bh (((w.alloc (cT #[A D ak,A D al,A D ah] 192)).alloc (cT #[A D bk,A D bl,A D bh] 192)).alloc (cT #[A D 0,A D 0,A D 0] 192)):=by
 refine⟨?_,?_,?_⟩
 ·rw[Below.heap_alloc _ _ _ kZ,Below.heap_alloc _ _ _ kS];exact heap_alloc_new _ _
 ·rw[Below.heap_alloc _ _ _ kS];exact heap_alloc2_new _ _ _
 have:=heap_alloc_new ((w.alloc (cT #[A D ak,A D al,A D ah] 192)).alloc (cT #[A D bk,A D bl,A D bh] 192)) (cT #[A D 0,A D 0,A D 0] 192);simp only[World.size_alloc]at this;exact this
end
theorem vmk_b0(code ak al ah bk bl bh:Int)(x0:(bk==0)=true)(w:World):zR 182 #[A D code,.agg #[A D ak,A D al,A D ah],.agg #[A D bk,A D bl,A D bh]] w (.tuple #[.agg #[A D 0,A D 0,A D 0],A D 8]):=by
 have hK0:=Mk3.start w ak al ah bk bl bh;obtain⟨a0,a1,a2,b0,b1,b2,r0,r1,r2,f0,f1,f2,hn⟩:=hK0.cells;go_enter Tryz.func182,Tryz.ntmps182;go_wp2_with fail;exact bodyPost_ret (v:= .tuple #[.agg #[A D 0,A D 0,A D 0],A D 8]) (by simp[results,Tryz.results182,go_sem, *]) rfl ⟨rfl,kB⟩
theorem vmk_a0(code ak al ah bk bl bh:Int)(x0:(bk==0)=false)(x1:(ak==0)=true)(x2:(code !=1)=true)(w:World):zR 182 #[A D code,.agg #[A D ak,A D al,A D ah],.agg #[A D bk,A D bl,A D bh]] w (.tuple #[.agg #[A D 0,A D 0,A D 0],A D 8]):=by
 have hK0:=Mk3.start w ak al ah bk bl bh;obtain⟨a0,a1,a2,b0,b1,b2,r0,r1,r2,f0,f1,f2,hn⟩:=hK0.cells;go_enter Tryz.func182,Tryz.ntmps182;go_wp2_with fail;exact bodyPost_ret (v:= .tuple #[.agg #[A D 0,A D 0,A D 0],A D 8]) (by simp[results,Tryz.results182,go_sem, *]) rfl ⟨rfl,kB⟩
theorem q0j(code ak al ah bk bl bh:Int)(x0:(bk==0)=false)(x1:(ak==0)=true)(x2:(code !=1)=false)(x3:(code==1)=true)(w:World):zR 182 #[A D code,.agg #[A D ak,A D al,A D ah],.agg #[A D bk,A D bl,A D bh]] w (.tuple #[.agg #[A D bk,A D bl,A D bh],A D 0]):=by
 have hK0:=Mk3.start w ak al ah bk bl bh;obtain⟨a0,a1,a2,b0,b1,b2,r0,r1,r2,f0,f1,f2,hn⟩:=hK0.cells;go_enter Tryz.func182,Tryz.ntmps182;go_wp2_with fail;exact bodyPost_ret (v:= .tuple #[.agg #[A D bk,A D bl,A D bh],A D 0]) (by simp[results,Tryz.results182,go_sem, *]) rfl ⟨rfl,kB⟩
theorem q0i(code ak al ah bk bl bh:Int)(x0:(bk==0)=false)(x1:(ak==0)=false)(x2:(code==1)=true)(w:World):zR 182 #[A D code,.agg #[A D ak,A D al,A D ah],.agg #[A D bk,A D bl,A D bh]] w (.tuple #[.agg #[A D bk,A D bl,A D bh],A D 0]):=by
 have hK0:=Mk3.start w ak al ah bk bl bh;obtain⟨a0,a1,a2,b0,b1,b2,r0,r1,r2,f0,f1,f2,hn⟩:=hK0.cells;go_enter Tryz.func182,Tryz.ntmps182;go_wp2_with fail;exact bodyPost_ret (v:= .tuple #[.agg #[A D bk,A D bl,A D bh],A D 0]) (by simp[results,Tryz.results182,go_sem, *]) rfl ⟨rfl,kB⟩
theorem q0g(code ak al ah bk bl bh:Int)(dl dh:Int)(HD:Hid (∀W:World,zR 50 #[A D code,.agg #[A D al,A D ah],.agg #[A D bl,A D bh]] W (.agg #[A D dl,A D dh])))(x0:(bk==0)=false)(x1:(ak==0)=false)(x2:(code==1)=false)(x3:(ak==1)=true)(x4:(bk==1)=true)(w:World):zR 182 #[A D code,.agg #[A D ak,A D al,A D ah],.agg #[A D bk,A D bl,A D bh]] w (.tuple #[.agg #[A D 1,A D dl,A D dh],A D 0]):=by
 have hK0:=Mk3.start w ak al ah bk bl bh;obtain⟨a0,a1,a2,b0,b1,b2,r0,r1,r2,f0,f1,f2,hn⟩:=hK0.cells;go_enter Tryz.func182,Tryz.ntmps182
 go_wp2_with(first
  |(go_at_call 50;refine(HD.out _).mono ?_;rintro e w1 ⟨rfl,hb1⟩;have hK1:Mk3 w.heap.size ak al ah bk bl bh w1:=Mk3.later kM hb1;have hbw1:Below w.heap.size w w1:=kT hb1;clear a0 a1 a2 b0 b1 b2 r0 r1 r2 f0 f1 f2 hn;obtain⟨a0,a1,a2,b0,b1,b2,r0,r1,r2,f0,f1,f2,hn⟩:=hK1.cells)
  |(go_at_call 180;refine(z1o _ _ _).mono ?_;rintro e w2 ⟨rfl,hb2⟩;simp only[Kno.v,z1n];have hK2:Mk3 w.heap.size ak al ah bk bl bh w2:=Mk3.later kM hb2;have hbw2:Below w.heap.size w w2:=kT hb2;clear a0 a1 a2 b0 b1 b2 r0 r1 r2 f0 f1 f2 hn;obtain⟨a0,a1,a2,b0,b1,b2,r0,r1,r2,f0,f1,f2,hn⟩:=hK2.cells)
  |fail)
 exact bodyPost_ret (v:= .tuple #[.agg #[A D 1,A D dl,A D dh],A D 0]) (by simp[results,Tryz.results182,go_sem, *]) rfl ⟨rfl,kB⟩
theorem zLl(code ak al ah bk bl bh:Int)(dl dh:Int)(HD:Hid (∀W:World,zR 50 #[A D code,.agg #[A D al,A D ah],.agg #[A D bl,A D bh]] W (.agg #[A D dl,A D dh])))(gk gl gh E:Int)(HF:Hid (z2e ak (dl,dh)=(⟨gk,gl,gh⟩,E)))(HP:Hid (z1q ak=true))(x0:(bk==0)=false)(x1:(ak==0)=false)(x2:(code==1)=false)(x3:(ak==1)=false)(x4:(bk==1)=true):(∀(x5:(code==2)=true)(w:World),zR 182 #[A D code,.agg #[A D ak,A D al,A D ah],.agg #[A D bk,A D bl,A D bh]] w (.tuple #[.agg #[A D gk,A D gl,A D gh],A D E]))/\(∀(x5:(code==2)=false)(x6:(code==3)=true)(w:World),zR 182 #[A D code,.agg #[A D ak,A D al,A D ah],.agg #[A D bk,A D bl,A D bh]] w (.tuple #[.agg #[A D gk,A D gl,A D gh],A D E])):=by
 refine⟨?_,?_⟩;intro x5 w;rotate_left;intro x5 x6 w;rotate_left
 all_goals
  have hK0:=Mk3.start w ak al ah bk bl bh;obtain⟨a0,a1,a2,b0,b1,b2,r0,r1,r2,f0,f1,f2,hn⟩:=hK0.cells
 all_goals
  go_enter Tryz.func182,Tryz.ntmps182
  go_wp2_with(first
   |(go_at_call 208;refine(z4v ak al ah _).mono ?_;rintro e w1 ⟨rfl,hb1⟩;rw[HP.out];have hK1:Mk3 w.heap.size ak al ah bk bl bh w1:=Mk3.later kM hb1;have hbw1:Below w.heap.size w w1:=kT hb1;clear a0 a1 a2 b0 b1 b2 r0 r1 r2 f0 f1 f2 hn;obtain⟨a0,a1,a2,b0,b1,b2,r0,r1,r2,f0,f1,f2,hn⟩:=hK1.cells)
   |fail)
  go_region_held3 (fun w'=>w'.cell? ⟨w.heap.size,0,none⟩=some (A D ak)/\w'.cell? ⟨w.heap.size,1,none⟩=some (A D al)/\w'.cell? ⟨w.heap.size,2,none⟩=some (A D ah)/\w'.cell? ⟨w.heap.size+1,0,none⟩=some (A D bk)/\w'.cell? ⟨w.heap.size+1,1,none⟩=some (A D bl)/\w'.cell? ⟨w.heap.size+1,2,none⟩=some (A D bh)) (first|(simp[go_sem];done)|(simp[go_sem, *];done)|go_keep) (first
   |(go_at_call 50;refine(HD.out _).mono ?_;rintro e w2 ⟨rfl,hb2⟩;have hK2:Mk3 w.heap.size ak al ah bk bl bh w2:=Mk3.later kM hb2;have hbw2:Below w.heap.size w w2:=kT hb2;clear a0 a1 a2 b0 b1 b2 r0 r1 r2 f0 f1 f2 hn;obtain⟨a0,a1,a2,b0,b1,b2,r0,r1,r2,f0,f1,f2,hn⟩:=hK2.cells)
   |(go_at_call 210;refine(zEf ak dl dh _).mono ?_;rintro e w3 ⟨rfl,hb3⟩;rw[HF.out];simp only[Kno.v];have hK3:Mk3 w.heap.size ak al ah bk bl bh w3:=Mk3.later kM hb3;have hbw3:Below w.heap.size w w3:=kT hb3;clear a0 a1 a2 b0 b1 b2 r0 r1 r2 f0 f1 f2 hn;obtain⟨a0,a1,a2,b0,b1,b2,r0,r1,r2,f0,f1,f2,hn⟩:=hK3.cells))
  all_goals go_wp2_with fail
  all_goals exact bodyPost_ret (v:= .tuple #[.agg #[A D gk,A D gl,A D gh],A D E]) (by simp[results,Tryz.results182,go_sem, *]) rfl ⟨rfl,kB⟩
def q0f:=fun code ak al ah bk bl bh dl dh HD gk gl gh E HF HP x0 x1 x2 x3 x4=>(@zLl code ak al ah bk bl bh dl dh HD gk gl gh E HF HP x0 x1 x2 x3 x4).1
def q0e:=fun code ak al ah bk bl bh dl dh HD gk gl gh E HF HP x0 x1 x2 x3 x4=>(@zLl code ak al ah bk bl bh dl dh HD gk gl gh E HF HP x0 x1 x2 x3 x4).2
theorem zE4(code ak al ah bk bl bh:Int):(∀(HP:Hid (z1q ak=false))(HQ:Hid (z1q bk=true))(x0:(bk==0)=false)(x1:(ak==0)=false)(x2:(code==1)=false)(x3:(ak==1)=true)(x4:(bk==1)=false)(x5:(code==2)=false)(w:World),zR 182 #[A D code,.agg #[A D ak,A D al,A D ah],.agg #[A D bk,A D bl,A D bh]] w (.tuple #[.agg #[A D 0,A D 0,A D 0],A D 1]))/\(∀(HP:Hid (z1q ak=false))(HQ:Hid (z1q bk=false))(x0:(bk==0)=false)(x1:(ak==0)=false)(x2:(code==1)=false)(x3:(ak==1)=true)(x4:(bk==1)=false)(w:World),zR 182 #[A D code,.agg #[A D ak,A D al,A D ah],.agg #[A D bk,A D bl,A D bh]] w (.tuple #[.agg #[A D 0,A D 0,A D 0],A D 1]))/\(∀(dl dh:Int)(HD:Hid (∀W:World,zR 50 #[A D code,.agg #[A D al,A D ah],.agg #[A D bl,A D bh]] W (.agg #[A D dl,A D dh])))(gk gl gh E:Int)(HF:Hid (z2e bk (dl,dh)=(⟨gk,gl,gh⟩,E)))(HP:Hid (z1q ak=false))(HQ:Hid (z1q bk=true))(x0:(bk==0)=false)(x1:(ak==0)=false)(x2:(code==1)=false)(x3:(ak==1)=true)(x4:(bk==1)=false)(x5:(code==2)=true)(w:World),zR 182 #[A D code,.agg #[A D ak,A D al,A D ah],.agg #[A D bk,A D bl,A D bh]] w (.tuple #[.agg #[A D gk,A D gl,A D gh],A D E])):=by
 refine⟨?_,?_,?_⟩;intro HP HQ x0 x1 x2 x3 x4 x5 w;rotate_left;intro HP HQ x0 x1 x2 x3 x4 w;rotate_left;intro dl dh HD gk gl gh E HF HP HQ x0 x1 x2 x3 x4 x5 w;rotate_left
 all_goals
  have hK0:=Mk3.start w ak al ah bk bl bh;obtain⟨a0,a1,a2,b0,b1,b2,r0,r1,r2,f0,f1,f2,hn⟩:=hK0.cells
 all_goals
  go_enter Tryz.func182,Tryz.ntmps182
  go_wp2_with(first
   |(go_at_call 208;have hg:=HP.out;clear hg;refine(z4v ak al ah _).mono ?_;rintro e w1 ⟨rfl,hb1⟩;rw[HP.out];clear HP;have hK1:Mk3 w.heap.size ak al ah bk bl bh w1:=Mk3.later kM hb1;have hbw1:Below w.heap.size w w1:=kT hb1;clear a0 a1 a2 b0 b1 b2 r0 r1 r2 f0 f1 f2 hn;obtain⟨a0,a1,a2,b0,b1,b2,r0,r1,r2,f0,f1,f2,hn⟩:=hK1.cells)
   |(go_at_call 208;refine(z4v bk bl bh _).mono ?_;rintro e w2 ⟨rfl,hb2⟩;rw[HQ.out];have hK2:Mk3 w.heap.size ak al ah bk bl bh w2:=Mk3.later kM hb2;have hbw2:Below w.heap.size w w2:=kT hb2;clear a0 a1 a2 b0 b1 b2 r0 r1 r2 f0 f1 f2 hn;obtain⟨a0,a1,a2,b0,b1,b2,r0,r1,r2,f0,f1,f2,hn⟩:=hK2.cells)
   |fail)
 iterate 2
  ·exact bodyPost_ret (v:= .tuple #[.agg #[A D 0,A D 0,A D 0],A D 1]) (by simp[results,Tryz.results182,go_sem, *]) rfl ⟨rfl,kB⟩
 ·go_region_held3 (fun w'=>w'.cell? ⟨w.heap.size,0,none⟩=some (A D ak)/\w'.cell? ⟨w.heap.size,1,none⟩=some (A D al)/\w'.cell? ⟨w.heap.size,2,none⟩=some (A D ah)/\w'.cell? ⟨w.heap.size+1,0,none⟩=some (A D bk)/\w'.cell? ⟨w.heap.size+1,1,none⟩=some (A D bl)/\w'.cell? ⟨w.heap.size+1,2,none⟩=some (A D bh)) (first|(simp[go_sem];done)|(simp[go_sem, *];done)|go_keep) (first
   |(go_at_call 50;refine(HD.out _).mono ?_;rintro e w2 ⟨rfl,hb2⟩;have hK2:Mk3 w.heap.size ak al ah bk bl bh w2:=Mk3.later kM hb2;have hbw2:Below w.heap.size w w2:=kT hb2;clear a0 a1 a2 b0 b1 b2 r0 r1 r2 f0 f1 f2 hn;obtain⟨a0,a1,a2,b0,b1,b2,r0,r1,r2,f0,f1,f2,hn⟩:=hK2.cells)
   |(go_at_call 210;refine(zEf bk dl dh _).mono ?_;rintro e w3 ⟨rfl,hb3⟩;rw[HF.out];simp only[Kno.v];have hK3:Mk3 w.heap.size ak al ah bk bl bh w3:=Mk3.later kM hb3;have hbw3:Below w.heap.size w w3:=kT hb3;clear a0 a1 a2 b0 b1 b2 r0 r1 r2 f0 f1 f2 hn;obtain⟨a0,a1,a2,b0,b1,b2,r0,r1,r2,f0,f1,f2,hn⟩:=hK3.cells))
  all_goals go_wp2_with fail
  all_goals exact bodyPost_ret (v:= .tuple #[.agg #[A D gk,A D gl,A D gh],A D E]) (by simp[results,Tryz.results182,go_sem, *]) rfl ⟨rfl,kB⟩
def q4p:=fun code ak al ah bk bl bh=>(@zE4 code ak al ah bk bl bh).1
def vmk_nb:=fun code ak al ah bk bl bh=>(@zE4 code ak al ah bk bl bh).2.1
def q0h:=fun code ak al ah bk bl bh=>(@zE4 code ak al ah bk bl bh).2.2
theorem zE3(code ak al ah bk bl bh:Int):(∀(HP:Hid (z1q ak=true))(x0:(bk==0)=false)(x1:(ak==0)=false)(x2:(code==1)=false)(x3:(ak==1)=false)(x4:(bk==1)=true)(x5:(code==2)=false)(x6:(code==3)=false)(w:World),zR 182 #[A D code,.agg #[A D ak,A D al,A D ah],.agg #[A D bk,A D bl,A D bh]] w (.tuple #[.agg #[A D 0,A D 0,A D 0],A D 1]))/\(∀(HP:Hid (z1q ak=false))(x0:(bk==0)=false)(x1:(ak==0)=false)(x2:(code==1)=false)(x3:(ak==1)=false)(w:World),zR 182 #[A D code,.agg #[A D ak,A D al,A D ah],.agg #[A D bk,A D bl,A D bh]] w (.tuple #[.agg #[A D 0,A D 0,A D 0],A D 1]))/\(∀(HP:Hid (z1q ak=true))(x0:(bk==0)=false)(x1:(ak==0)=false)(x2:(code==1)=false)(x3:(ak==1)=false)(x4:(bk==1)=false)(w:World),zR 182 #[A D code,.agg #[A D ak,A D al,A D ah],.agg #[A D bk,A D bl,A D bh]] w (.tuple #[.agg #[A D 0,A D 0,A D 0],A D 1])):=by
 refine⟨?_,?_,?_⟩;intro HP x0 x1 x2 x3 x4 x5 x6 w;rotate_left;intro HP x0 x1 x2 x3 w;rotate_left;intro HP x0 x1 x2 x3 x4 w;rotate_left
 all_goals
  have hK0:=Mk3.start w ak al ah bk bl bh;obtain⟨a0,a1,a2,b0,b1,b2,r0,r1,r2,f0,f1,f2,hn⟩:=hK0.cells
 all_goals
  go_enter Tryz.func182,Tryz.ntmps182
  go_wp2_with(first
   |(go_at_call 208;refine(z4v ak al ah _).mono ?_;rintro e w1 ⟨rfl,hb1⟩;rw[HP.out];have hK1:Mk3 w.heap.size ak al ah bk bl bh w1:=Mk3.later kM hb1;have hbw1:Below w.heap.size w w1:=kT hb1;clear a0 a1 a2 b0 b1 b2 r0 r1 r2 f0 f1 f2 hn;obtain⟨a0,a1,a2,b0,b1,b2,r0,r1,r2,f0,f1,f2,hn⟩:=hK1.cells)
   |fail)
  exact bodyPost_ret (v:= .tuple #[.agg #[A D 0,A D 0,A D 0],A D 1]) (by simp[results,Tryz.results182,go_sem, *]) rfl ⟨rfl,kB⟩
def q4o:=fun code ak al ah bk bl bh=>(@zE3 code ak al ah bk bl bh).1
def vmk_m:=fun code ak al ah bk bl bh=>(@zE3 code ak al ah bk bl bh).2.1
def vmk_pb:=fun code ak al ah bk bl bh=>(@zE3 code ak al ah bk bl bh).2.2
end
section
open Go.ChangeShapes Go.WideShapes Go.ChangeAt Go.RowKit
attribute [local simp] z05 z0a z06
theorem zMx(k l h o:Int)(x0:(k==0)=true)(w:World):zR 179 #[.agg #[A D k,A D l,A D h],A D o] w (.tuple #[.agg #[A D 0,A D 0],A D 8]):=by
 go_enter Tryz.func179,Tryz.ntmps179;go_wp2_with fail;exact bodyPost_ret (v:= .tuple #[.agg #[A D 0,A D 0],A D 8]) (by simp[results,Tryz.results179,go_sem, *]) rfl ⟨rfl,kB⟩
theorem zRj(k l h o:Int)(x0:(k==0)=false)(HP:Hid (z1q k=false))(w:World):zR 179 #[.agg #[A D k,A D l,A D h],A D o] w (.tuple #[.agg #[A D 0,A D 0],A D 1]):=by
 have hK0:Blk w [(w.heap.size,cT #[A D k,A D l,A D h] 192 (0,0)),(w.heap.size+1,cT #[A D 0,A D 0] 84 (0,0))] ((w.alloc (cT #[A D k,A D l,A D h] 192)).alloc (cT #[A D 0,A D 0] 84)):=(((Blk.nil ((((bF _ _).alloc (Nat.le_refl _) _).alloc kS _))).cons (heap_alloc2_new _ _ _)).cons (by rw[Below.heap_alloc _ _ _ kS];exact heap_alloc_new _ _));go_enter Tryz.func179,Tryz.ntmps179
 go_wp2_with(first
  |(go_at_call 208;refine(z4v k l h _).mono ?_;rintro e w1 ⟨rfl,hb1⟩;rw[HP.out];have hK1:=hK0.later hb1;have hbw1:=hK1.1;obtain⟨c0,c1,c2, -, -, -,lt0⟩:=row3 (hK1.2 _ (mcS));obtain⟨r0,r1,f0,f1,lt1⟩:=row2 (hK1.2 _ (mcO _ mcS)))
  |fail)
 exact bodyPost_ret (v:= .tuple #[.agg #[A D 0,A D 0],A D 1]) (by simp[results,Tryz.results179,go_sem, *]) rfl ⟨rfl,kB⟩
theorem zB7(k l h o:Int)(x0:(k==0)=false)(HP:Hid (z1q k=true))(tl th rl rh:Int)(HD:Hid (∀W:World,zR 50 #[A D 2,.agg #[A D l,A D h],.agg #[A D o,A D o]] W (.agg #[A D tl,A D th])))(HR:Hid (∀W:World,zR 209 #[A D k] W (.agg #[A D rl,A D rh]))):(∀(HJ:Hid (∀W:World,zR 111 #[.agg #[A D tl,A D th],.agg #[A D rl,A D rh]] W (.agg #[A D rl,A D rh])))(w:World),zR 179 #[.agg #[A D k,A D l,A D h],A D o] w (.tuple #[.agg #[A D tl,A D th],A D 0]))/\(∀(jh:Int)(hj: ¬jh=rh)(HJ:Hid (∀W:World,zR 111 #[.agg #[A D tl,A D th],.agg #[A D rl,A D rh]] W (.agg #[A D rl,A D jh])))(w:World),zR 179 #[.agg #[A D k,A D l,A D h],A D o] w (.tuple #[.agg #[A D 0,A D 0],A D 2]))/\(∀(jl jh:Int)(hj: ¬jl=rl)(HJ:Hid (∀W:World,zR 111 #[.agg #[A D tl,A D th],.agg #[A D rl,A D rh]] W (.agg #[A D jl,A D jh])))(w:World),zR 179 #[.agg #[A D k,A D l,A D h],A D o] w (.tuple #[.agg #[A D 0,A D 0],A D 2])):=by
 refine⟨?_,?_,?_⟩;intro HJ w;rotate_left;intro jh hj HJ w;rotate_left;intro jl jh hj HJ w;rotate_left
 all_goals
  have hK0:Blk w [(w.heap.size,cT #[A D k,A D l,A D h] 192 (0,0)),(w.heap.size+1,cT #[A D 0,A D 0] 84 (0,0))] ((w.alloc (cT #[A D k,A D l,A D h] 192)).alloc (cT #[A D 0,A D 0] 84)):=(((Blk.nil ((((bF _ _).alloc (Nat.le_refl _) _).alloc kS _))).cons (heap_alloc2_new _ _ _)).cons (by rw[Below.heap_alloc _ _ _ kS];exact heap_alloc_new _ _))
 all_goals
  go_enter Tryz.func179,Tryz.ntmps179
  go_wp2_with(first
   |(go_at_call 208;refine(z4v k l h _).mono ?_;rintro e w1 ⟨rfl,hb1⟩;rw[HP.out];have hK1:=hK0.later hb1;have hbw1:=hK1.1;obtain⟨c0,c1,c2, -, -, -,lt0⟩:=row3 (hK1.2 _ (mcS));obtain⟨r0,r1,f0,f1,lt1⟩:=row2 (hK1.2 _ (mcO _ mcS)))
   |fail)
  refine z0n (C:=Blk w [(w.heap.size,cT #[A D k,A D l,A D h] 192 (0,0)),(w.heap.size+1,cT #[A D 0,A D 0] 84 (0,0))]) (n0:=w.heap.size+1+1) 8 [] [cT #[A D 0,A D 0] 84 (0,0),cT #[A D 0,A D 0] 84 (0,0)] kR kR (fun d _ _ _ _ h=>by cases d<;>exact h) (Blk.stable _ _) (Blk.room w (mcO _ mcS)) hK1.drew ⟨⟨rfl,fun a w2 hC=>by go_simp;try rfl⟩,⟨rfl,fun a w2 hC=>by go_simp;try rfl⟩,trivial⟩ ?_;simp only[List.take_succ_cons,List.take_zero,List.drop_succ_cons,List.drop_zero,List.length_cons,List.length_nil,Nat.reduceAdd]
  repeat(first
   |(refine z0k kI ?_;simp only[pS])
   |(refine z09 kI (v:=?_) ?_ ?_;rotate_left;(intro w2 hC;obtain⟨c0,c1,c2, -, -, -,lt0⟩:=row3 (hC.2 _ (mcS));obtain⟨r0,r1,f0,f1,lt1⟩:=row2 (hC.2 _ (mcO _ mcS));go_simp;try with_reducible rfl);simp only[pS])
   |(refine z0t kI ?_;apply Exists.intro;refine⟨fun w2 hC=>?_,?_⟩;(obtain⟨c0,c1,c2, -, -, -,lt0⟩:=row3 (hC.2 _ (mcS));obtain⟨r0,r1,f0,f1,lt1⟩:=row2 (hC.2 _ (mcO _ mcS));go_simp;apply z10;first|(go_at_call 86;exact z3c _ w2)|(go_at_call 50;exact HD.out w2)|(go_at_call 209;exact HR.out w2));simp only[pS]))
  refine z0r ?_;intro L h6 g6 K h7 g7 w3 hC hB;have hne:K≠L:=(FB.upd_none h7).1;have hne':L≠K:=fun e=>hne e.symm;have bK:=hB K _ (FB.at_new _ _ _);have bL:=hB L _ (FB.at_old hne' (FB.at_new _ _ _));obtain⟨p0,p1,pf0,pf1,ltL⟩:=row2 bL;obtain⟨q0,q1,qf0,qf1,ltK⟩:=row2 bK;have hK3:=hC;clear c0 c1 c2 lt0 r0 r1 f0 f1 lt1 hB h6 h7 hK0 hb1 hbw1 hK1;obtain⟨c0,c1,c2, -, -, -,lt0⟩:=row3 (hC.2 _ (mcS));obtain⟨r0,r1,f0,f1,lt1⟩:=row2 (hC.2 _ (mcO _ mcS));have g6':w.heap.size≠L:=kO;have g7':w.heap.size≠K:=kO;have g8':w.heap.size+1≠L:=kO;have g9':w.heap.size+1≠K:=kO;simp only[zAx];go_wp2_with fail;have hK6:Blk w [(w.heap.size,cT #[A D k,A D l,A D h] 192 (0,0)),(w.heap.size+1,cT #[A D 0,A D 0] 84 (0,0)),(L,cT #[A D tl,A D th] 84 (0,0)),(K,cT #[A D rl,A D rh] 84 (0,0))] _:=((((Blk.nil (((((hC.1.setCell (by show _<=L;omega) _).setCell (by show _<=L;omega) _).setCell (by show _<=K;omega) _).setCell (by show _<=K;omega) _))).cons (put2 (off2 bK hne))).cons (off2 (put2 bL) hne')).cons (off2 (off2 (hC.2 _ (mcO _ mcS)) g8') g9')).cons (off2 (off2 (hC.2 _ mcS) g6') g7');clear c0 c1 c2 lt0 r0 r1 f0 f1 lt1 p0 p1 pf0 pf1 q0 q1 qf0 qf1 hC bK bL hK3;refine z0n (C:=Blk w [(w.heap.size,cT #[A D k,A D l,A D h] 192 (0,0)),(w.heap.size+1,cT #[A D 0,A D 0] 84 (0,0)),(L,cT #[A D tl,A D th] 84 (0,0)),(K,cT #[A D rl,A D rh] 84 (0,0))]) (n0:=w.heap.size) 4 [] [] kR kR (fun d _ _ _ _ h=>by cases d<;>exact h) (Blk.stable _ _) (Blk.room0 _ _) hK6.drew trivial ?_;simp only[List.take_succ_cons,List.take_zero,List.drop_succ_cons,List.drop_zero,List.length_nil,Nat.reduceAdd]
  repeat(first
   |(refine z0k kI ?_;simp only[pS])
   |(refine z09 kI (v:=?_) ?_ ?_;rotate_left;(intro w2 hC;obtain⟨c0,c1,c2, -, -, -,lt0⟩:=row3 (hC.2 _ mcS);obtain⟨r0,r1,f0,f1,lt1⟩:=row2 (hC.2 _ (mcO _ mcS));obtain⟨t0,t1, -, -,lt2⟩:=row2 (hC.2 _ (mcO _ (mcO _ mcS)));obtain⟨s0,s1, -, -,lt3⟩:=row2 (hC.2 _ (mcO _ (mcO _ (mcO _ mcS))));go_simp;try with_reducible rfl);simp only[pS])
   |(refine z0t kI ?_;apply Exists.intro;refine⟨fun w2 hC=>?_,?_⟩;(obtain⟨c0,c1,c2, -, -, -,lt0⟩:=row3 (hC.2 _ mcS);obtain⟨r0,r1,f0,f1,lt1⟩:=row2 (hC.2 _ (mcO _ mcS));obtain⟨t0,t1, -, -,lt2⟩:=row2 (hC.2 _ (mcO _ (mcO _ mcS)));obtain⟨s0,s1, -, -,lt3⟩:=row2 (hC.2 _ (mcO _ (mcO _ (mcO _ mcS))));go_simp;apply z10;first|(go_at_call 111;exact HJ.out w2));simp only[pS]))
  refine z0r ?_;intro w4 hC hB;clear hB;obtain⟨c0,c1,c2, -, -, -,lt0⟩:=row3 (hC.2 _ mcS);obtain⟨r0,r1,f0,f1,lt1⟩:=row2 (hC.2 _ (mcO _ mcS));obtain⟨t0,t1, -, -,lt2⟩:=row2 (hC.2 _ (mcO _ (mcO _ mcS)));obtain⟨s0,s1, -, -,lt3⟩:=row2 (hC.2 _ (mcO _ (mcO _ (mcO _ mcS))));have hbw:=hC.1;go_wp2_with fail;exact bodyPost_ret (by simp[results,Tryz.results179,go_sem, *]) rfl ⟨rfl,kB⟩
def zUv:=fun k l h o x0 HP tl th rl rh HD HR=>(@zB7 k l h o x0 HP tl th rl rh HD HR).1
def zMv:=fun k l h o x0 HP tl th rl rh HD HR=>(@zB7 k l h o x0 HP tl th rl rh HD HR).2.1
def zMw:=fun k l h o x0 HP tl th rl rh HD HR=>(@zB7 k l h o x0 HP tl th rl rh HD HR).2.2
theorem zFx(x:Kno)(o:Int)(hx:x.Ok)(ho:In64 o)(w:World):zR 179 #[x.v,A D o] w (.tuple #[.agg #[A D (z1m x o).1.1,A D (z1m x o).1.2],A D (z1m x o).2]):=by
 obtain⟨k,l,h⟩:=x;unfold z1m Kno.v
 by_cases h0:k=0
 ·rw[if_pos h0];exact zMx k l h o (by simpa using h0) w
 rw[if_neg h0];have hk:=hx.1;have hk5:=hx.2.1;have y0:(k==0)=false:=by simpa using h0
 by_cases h1:k=1\/k=5
 ·rw[if_pos h1]
  have hp:z1q k=false:=by
   cases e:z1q k
   ·rfl
   ·have:=(z44 k).1 e;omega
  exact zRj k l h o y0 hp w
 rw[if_neg h1];have hp:z1q k=true:=(z44 k).2 (by change 0<=k at hk;change k<=5 at hk5;omega);have HD:=fun W:World=>zZo 2 l h o o hx.2.2.1.1 hx.2.2.1.2 hx.2.2.2.1.1 hx.2.2.2.1.2 ho.1 ho.2 ho.1 ho.2 hx.2.2.2.2 (Int.le_refl _) W;have HR:=fun W:World=>q1a k W;have eT:zDv ⟨k,l,h⟩ o=bdV 2 l h o o:=rfl;rw[eT];generalize bdV 2 l h o o=t at*;change∀W:World,_ at HR
 obtain⟨tl,th⟩:=t;have eR:z5a (⟨k,l,h⟩:Kno).k=z5a k:=rfl;rw[eR];generalize z5a k=r at*;obtain⟨rl,rh⟩:=r
 by_cases g1:tl<rl
 ·rw[if_pos (Or.inl g1)]
  exact zMw k l h o y0 hp tl th rl rh HD HR (min tl rl) (max th rh) kO (fun W=>z3z tl th rl rh W) w
 by_cases g2:rh<th
 ·rw[if_pos (Or.inr g2)]
  exact zMv k l h o y0 hp tl th rl rh HD HR (max th rh) kO (fun W=>by have:=z3z tl th rl rh W;rw[Int.min_eq_right kO]at this;exact this) w
 rw[if_neg (by show¬(tl<rl\/rh<th);omega)];exact zUv k l h o y0 hp tl th rl rh HD HR (fun W=>by have:=z3z tl th rl rh W;rw[Int.min_eq_right kO,Int.max_eq_right kO]at this;exact this) w
theorem z23{B:Nat}{a w:World}(h:Below B a w){g:Nat}(hg:B<=g)(cs:Array Value):Below B a (w.setRow g cs):=
 h.trans ⟨rfl,rfl,rfl,by simp,fun k hk=>setRow_other w g k cs kO⟩
theorem kW{n:Nat}{a w:World}(h:Below n a w:=by repeat' first|with_reducible assumption|with_reducible(first|exact bF _ _|refine bA ?_ ?_ _|refine bS ?_ ?_ _|refine bD ?_|refine z23 ?_ ?_ _)|((try dsimp only);omega)|(simp;done)|(simp;omega)):Below n a w:=h
theorem zPm:Tryz.zeroCells196=z04 0 ⟨fun _=>kno0,fun _=>kno0⟩:=kR
theorem z26:Tryz.zeroCells196.size=82:=by rw[zPm,z0i]
theorem zKm(p o:Int)(y:Way)(h0:0<=p)(h1:p<=1000)(h2:0<=o)(h3:o<=1000)(w:World):zR 141 #[.agg (z04 p y),A D o] w (.agg (z04 (p+(1+o)) y)):=by
 go_enter Tryz.func141,Tryz.ntmps141
 iterate 2 go_step
 go_cut [2,4] (fun s2 s4 wx=>s2= pT (some ⟨w.heap.size,0,none⟩)/\s4= pT (some ⟨w.heap.size+1,0,none⟩)/\Below w.heap.size w wx/\z03 wx w.heap.size p y/\wx.heap[w.heap.size+1]?=some (cT Tryz.zeroCells196 196 (0,0)))
 case first=>
  go_wp2_with fail;go_meet;exact⟨rfl,rfl,kW,(z03.start w p y).alloc _,heap_alloc2_new _ _ _⟩
 case rest=>
 obtain⟨rfl,rfl,hbw,hW,hZ⟩:=hcut;have q0:=hW.step;have f0:=hW.frozen 0;have HW:Hid (z03 wc w.heap.size p y):=hW;have HZ:Hid (wc.heap[w.heap.size+1]?=some (cT Tryz.zeroCells196 196 (0,0))):=hZ;clear hW hZ
 go_wp2_with(first
  |(refine wpList_load_row rfl 196 (.tmp 2) rfl w.heap.size rfl 196 (z04 (p+(1+o)) y) (0,0) _ (HW.out.putStep _) Tryz.underlying196 rfl (z0o _ _) ?_)
  |(refine wpList_store_row rfl 196 (.tmp 4) (.tmp 11) rfl (w.heap.size+1) (z04 (p+(1+o)) y) rfl rfl 196 Tryz.zeroCells196 ((heap_setCell_other _ _ _ _ kS).trans HZ.out) (z0o _ _) (by rw[z26,z0i]) (z2l _ _) ?_)
  |fail)
 exact bodyPost_ret (v:= .agg (z04 (p+(1+o)) y)) (zBl rfl _ _ (w.heap.size+1) _ _ rfl (z03.setRow (old:=Tryz.zeroCells196) ((heap_setCell_other _ _ _ _ kS).trans HZ.out) _ _)) rfl ⟨rfl,kW⟩
theorem z03.zero(w:World):z03 (w.alloc (cT Tryz.zeroCells196 196)) w.heap.size 0 ⟨fun _=>kno0,fun _=>kno0⟩:=by
 rw[zPm];exact z03.start w _ _
theorem q4n:(Way.putReg (Way.putReg ⟨fun _=>kno0,fun _=>kno0⟩ 1 ⟨2,0,0⟩) 10 ⟨3,0,0⟩)=way0:=by
 unfold Way.putReg way0;congr 1;funext i;show(if i=10 then _ else if i=1 then _ else _)=if i=1 then _ else if i=10 then _ else _
 by_cases h1:i=1
 ·subst h1;rfl
 rw[if_neg h1,if_neg h1]
section
variable {w:World} {B:Nat} {p:Int} {y:Way}
theorem z03.put0(h:z03 w B p y)(k l g:Int):z03 (((w.setCell ⟨B,1,none⟩ (A D k)).setCell ⟨B,2,none⟩ (A D l)).setCell ⟨B,3,none⟩ (A D g)) B p (y.putReg 0 ⟨k,l,g⟩):=h.reg3 (d:=0) kD k l g
theorem z03.put1(h:z03 w B p y)(k l g:Int):z03 (((w.setCell ⟨B,4,none⟩ (A D k)).setCell ⟨B,5,none⟩ (A D l)).setCell ⟨B,6,none⟩ (A D g)) B p (y.putReg 1 ⟨k,l,g⟩):=h.reg3 (d:=1) kD k l g
theorem z03.put10(h:z03 w B p y)(k l g:Int):z03 (((w.setCell ⟨B,31,none⟩ (A D k)).setCell ⟨B,32,none⟩ (A D l)).setCell ⟨B,33,none⟩ (A D g)) B p (y.putReg 10 ⟨k,l,g⟩):=h.reg3 (d:=10) kD k l g
end
theorem z03.at0{w:World}{B:Nat}(h:z03 w B 0 (Way.putReg (Way.putReg ⟨fun _=>kno0,fun _=>kno0⟩ 1 ⟨2,0,0⟩) 10 ⟨3,0,0⟩)):z03 w B 0 way0:=by rw[q4n]at h;exact h
theorem zRy(w:World):zR 109 #[] w (.agg (z04 0 way0)):=by
 go_enter Tryz.func109,Tryz.ntmps109
 iterate 2 go_step
 go_cut [0] (fun s0 wx=>s0= pT (some ⟨w.heap.size,0,none⟩)/\Below w.heap.size w wx/\wx.heap.size=w.heap.size+1/\wx.heap[w.heap.size]?=some (cT Tryz.zeroCells196 196 (0,0)))
 case first=>
  go_wp2_with fail;go_meet;exact⟨rfl,kW,by simp,heap_alloc_new _ _⟩
 case rest=>
 obtain⟨rfl,hbw,hsz,hZ⟩:=hcut
 iterate 2 go_step
 go_cut [1] (fun s1 wx=>s1= pT (some ⟨w.heap.size+1,0,none⟩)/\Below w.heap.size w wx/\z03 wx (w.heap.size+1) 0 ⟨fun _=>kno0,fun _=>kno0⟩/\wx.heap[w.heap.size]?=some (cT Tryz.zeroCells196 196 (0,0)))
 case first=>
  go_wp2_with fail;go_meet;exact⟨rfl,kW,by rw[<-hsz];exact z03.zero _,by rw[Below.heap_alloc _ _ _ kO];exact hZ⟩
 case rest=>
 clear hbw hsz hZ;obtain⟨rfl,hbw,hW,hZ⟩:=hcut;have hlt:=hW.lt;have HW:Hid (z03 wc (w.heap.size+1) 0 ⟨fun _=>kno0,fun _=>kno0⟩):=hW;have HZ:Hid (wc.heap[w.heap.size]?=some (cT Tryz.zeroCells196 196 (0,0))):=hZ;have HB:Hid (Below w.heap.size w wc):=hbw;clear hW hZ hbw
 go_wp2_with(first
  |(go_at_call 86;have hg:=HW.out;clear hg;refine(z3c 0 _).mono ?_;rintro e w1 ⟨rfl,hb1⟩;have hW1:=HW.out.later hb1;have hlt:=hW1.lt;obtain⟨i0,i1,i2⟩:=hW1.reg (d:=1) kD;simp only[Nat.reduceMul,Nat.reduceAdd]at i0 i1 i2;have f0:=hW1.frozen 4;have f1:=hW1.frozen 5;have f2:=hW1.frozen 6;have HW1:Hid (z03 w1 (w.heap.size+1) 0 ⟨fun _=>kno0,fun _=>kno0⟩):=hW1;have HZ1:Hid (w1.heap[w.heap.size]?=some (cT Tryz.zeroCells196 196 (0,0))):=(hb1.block _ kO).trans HZ.out;have HB1:Hid (Below w.heap.size w w1):=HB.out.trans (hb1.mono HB.out.size);clear HW HZ HB hb1 hW1)
  |(go_at_call 86;refine(z3c 0 _).mono ?_;rintro e w2 ⟨rfl,hb2⟩;have hW2:=(HW1.out.put1 2 0 0).later hb2;have hlt:=hW2.lt;clear i0 i1 i2 f0 f1 f2;obtain⟨i0,i1,i2⟩:=hW2.reg (d:=10) kD;simp only[Nat.reduceMul,Nat.reduceAdd]at i0 i1 i2;have f0:=hW2.frozen 31;have f1:=hW2.frozen 32;have f2:=hW2.frozen 33;have HW2:Hid (z03 w2 (w.heap.size+1) 0 (Way.putReg ⟨fun _=>kno0,fun _=>kno0⟩ 1 ⟨2,0,0⟩)):=hW2;have HZ2:Hid (w2.heap[w.heap.size]?=some (cT Tryz.zeroCells196 196 (0,0))):=(hb2.block _ kZ).trans ((heap_setCell_other _ _ _ _ kS).trans ((heap_setCell_other _ _ _ _ kS).trans ((heap_setCell_other _ _ _ _ kS).trans HZ1.out)));have HB2:Hid (Below w.heap.size w w2):=((((HB1.out.setCell (by show w.heap.size<=w.heap.size+1;omega) _).setCell (by show w.heap.size<=w.heap.size+1;omega) _).setCell (by show w.heap.size<=w.heap.size+1;omega) _).trans (hb2.mono kZ));clear HW1 HZ1 HB1 hb2 hW2)
  |(refine wpList_load_row rfl 196 (.tmp 1) rfl (w.heap.size+1) rfl 196 (z04 0 way0) (0,0) _ (z03.at0 (HW2.out.put10 3 0 0)) Tryz.underlying196 rfl (z0o _ _) ?_)
  |(refine wpList_store_row rfl 196 (.tmp 0) (.tmp 10) rfl w.heap.size (z04 0 way0) rfl rfl 196 Tryz.zeroCells196 ((heap_setCell_other _ _ _ _ kS).trans ((heap_setCell_other _ _ _ _ kS).trans ((heap_setCell_other _ _ _ _ kS).trans HZ2.out))) (z0o _ _) (by rw[z26,z0i]) (z2l _ _) ?_)
  |fail)
 exact bodyPost_ret (v:= .agg (z04 0 way0)) (zBl rfl _ _ w.heap.size _ _ rfl (z03.setRow (old:=Tryz.zeroCells196) ((heap_setCell_other _ _ _ _ kS).trans ((heap_setCell_other _ _ _ _ kS).trans ((heap_setCell_other _ _ _ _ kS).trans HZ2.out))) _ _)) rfl ⟨rfl,(by repeat' first|with_reducible(first|exact HB2.out|refine bA ?_ ?_ _|refine bS ?_ ?_ _|refine z23 ?_ ?_ _)|((try dsimp only);omega)|(simp;done)|(simp;omega))⟩
end
section
open Go.RowKit
def Way.store(y:Way)(p v:Kno)(o:Int):Int×Way:=
 if(z1m p o).2≠0 then((z1m p o).2,y)
 else if p.k=2 then(6,y)
 else if v.k=0 then(8,y)
 else if p.k=4 then(z16 v,y)
 else if(z1m p o).1.1≠(z1m p o).1.2 then(2,y)
 else(0,y.putSlot ((z1m p o).1.1+16).toNat v)
def Way.call(y:Way)(what:Int):Int×Way:=
 if(what=1\/what=3)/\z16 (y.reg 1)≠0 then(z16 (y.reg 1),y)
 else if what=1 then(0,y.lose.putReg 0 ⟨5,0,0⟩)
 else if what=2 then(0,y.lose.putReg 0 (z1n (-9223372036854775808) 9223372036854775807))
 else(0,y.lose.putReg 0 (z1n 0 0))
def Way.change(y:Way)(c:Int)(d s:Nat)(r:Bool)(n:Int):Int×Way:=
 if(z4g c (y.reg d) (y.second s r n)).2=0 then(0,y.putReg d (z4g c (y.reg d) (y.second s r n)).1)else((z4g c (y.reg d) (y.second s r n)).2,y)
theorem z7r{y:Way}{s:Nat}{r:Bool}{n:Int}(hk:y.Ok)(hs:s<11)(hn:In64 n):(y.second s r n).Ok:=by
 cases r
 ·exact⟨by show(0:Int)<=1;decide,by show(1:Int)<=5;decide,hn,hn,Int.le_refl _⟩
 exact hk.reg s hs
end
end Go.Proofs.YtkdflpplamebkaaGreatDoor
