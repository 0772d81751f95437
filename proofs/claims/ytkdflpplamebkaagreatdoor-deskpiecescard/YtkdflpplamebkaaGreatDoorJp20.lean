/-
A part of the proof of DeskPieces; its card says what is proved.
-/
import Derived.Test.YtkdflpplamebkaaGreatDoorJp19
import Derived.Test.YtkdflpplamebkaaGreatDoorJp18
set_option maxHeartbeats 40000000
open Go.Value renaming int → A
open Go.IntKind renaming i64 → B
set_option maxRecDepth 1000000
set_option linter.defProp false
set_option linter.unusedVariables false
set_option linter.unusedSimpArgs false
open Go.Value renaming pointer → pT
namespace Go.Proofs.YtkdflpplamebkaaGreatDoor
section
open Go.ChangeShapes Go.WideShapes Go.ChangeAt Go.RowKit
theorem z2z{W w1:World}(hb:Below W.heap.size W w1)(n:Nat)(h:n<W.heap.size):n<w1.heap.size/\w1.cell? ⟨n,0,none⟩=W.cell? ⟨n,0,none⟩/\w1.cell? ⟨n,1,none⟩=W.cell? ⟨n,1,none⟩/\w1.frozen? ⟨n,0,none⟩=W.frozen? ⟨n,0,none⟩/\w1.frozen? ⟨n,1,none⟩=W.frozen? ⟨n,1,none⟩:=
 ⟨Nat.lt_of_lt_of_le h hb.size,hb.cell (p:=⟨n,0,none⟩) h,hb.cell (p:=⟨n,1,none⟩) h,hb.frozen (p:=⟨n,0,none⟩) h,hb.frozen (p:=⟨n,1,none⟩) h⟩
def z6a(al ah bl bh:Int):(Int×Int)×Bool:=if max al bl<=min ah bh then((max al bl,min ah bh),true)else((0,0),false)
def belV(g al ah bl bh:Int):(Int×Int)×(Int×Int)×Bool:=if al<=ah/\al+g<=bh then((al,min ah (bh-g)),(max bl (al+g),bh),true)else((0,0),(0,0),false)
def unsV(g al ah bl bh:Int):(Int×Int)×(Int×Int)×Bool:=if bl<0 then((al,ah),(bl,bh),true)else belV g (max al 0) ah bl bh
def apV(al ah bl bh:Int):(Int×Int)×(Int×Int)×Bool:=if al=bl/\ah=bh/\ah=al then((0,0),(0,0),false)else(cutV al ah bl bh,cutV bl bh al ah,true)
def zHv(x:(Int×Int)×(Int×Int)×Bool):(Int×Int)×(Int×Int)×Bool:=(x.2.1,x.1,x.2.2)
def narV(c al ah bl bh:Int):(Int×Int)×(Int×Int)×Bool:=
 if c=15 then((z6a al ah bl bh).1,(z6a al ah bl bh).1,(z6a al ah bl bh).2)else if c=16 then apV al ah bl bh
 else if c=17 then zHv (unsV 1 bl bh al ah)else if c=18 then zHv (unsV 0 bl bh al ah)else if c=19 then unsV 1 al ah bl bh else if c=20 then unsV 0 al ah bl bh
 else if c=21 then zHv (belV 1 bl bh al ah)else if c=22 then zHv (belV 0 bl bh al ah)else if c=23 then belV 1 al ah bl bh else if c=24 then belV 0 al ah bl bh
 else((al,ah),(bl,bh),true)
theorem zX6(al ah bl bh:Int):narV 15 al ah bl bh=((z6a al ah bl bh).1,(z6a al ah bl bh).1,(z6a al ah bl bh).2):=by simp only[narV,reduceIte,Int.reduceEq]
theorem zX5(al ah bl bh:Int):narV 16 al ah bl bh=apV al ah bl bh:=by simp only[narV,reduceIte,Int.reduceEq]
theorem zX4(al ah bl bh:Int):narV 17 al ah bl bh=zHv (unsV 1 bl bh al ah):=by simp only[narV,reduceIte,Int.reduceEq]
theorem zX3(al ah bl bh:Int):narV 18 al ah bl bh=zHv (unsV 0 bl bh al ah):=by simp only[narV,reduceIte,Int.reduceEq]
theorem zX2(al ah bl bh:Int):narV 19 al ah bl bh=unsV 1 al ah bl bh:=by simp only[narV,reduceIte,Int.reduceEq]
theorem zX1(al ah bl bh:Int):narV 20 al ah bl bh=unsV 0 al ah bl bh:=by simp only[narV,reduceIte,Int.reduceEq]
theorem zX0(al ah bl bh:Int):narV 21 al ah bl bh=zHv (belV 1 bl bh al ah):=by simp only[narV,reduceIte,Int.reduceEq]
theorem zWz(al ah bl bh:Int):narV 22 al ah bl bh=zHv (belV 0 bl bh al ah):=by simp only[narV,reduceIte,Int.reduceEq]
theorem zWy(al ah bl bh:Int):narV 23 al ah bl bh=belV 1 al ah bl bh:=by simp only[narV,reduceIte,Int.reduceEq]
theorem zWx(al ah bl bh:Int):narV 24 al ah bl bh=belV 0 al ah bl bh:=by simp only[narV,reduceIte,Int.reduceEq]
theorem q5g{c:Int}(al ah bl bh:Int)(h:c<15\/24<c):narV c al ah bl bh=((al,ah),(bl,bh),true):=by
 have e: ∀k:Int,15<=k->k<=24->c≠k:=fun k h1 h2=>by omega
 unfold narV;rw[if_neg (e 15 kD kD),if_neg (e 16 kD kD),if_neg (e 17 kD kD),if_neg (e 18 kD kD),if_neg (e 19 kD kD),if_neg (e 20 kD kD),if_neg (e 21 kD kD),if_neg (e 22 kD kD),if_neg (e 23 kD kD),if_neg (e 24 kD kD)]
theorem q5i(al ah bl bh:Int)(w:World):zR 222 #[.agg #[A B al,A B ah],.agg #[A B bl,A B bh]] w (.tuple #[.agg #[A B (((z6a al ah bl bh).1).1),A B (((z6a al ah bl bh).1).2)],.bool ((z6a al ah bl bh).2)]):=by
 unfold z6a
 by_cases h:max al bl<=min ah bh
 ·rw[if_pos h]
  exact q1q al ah bl bh h w
 rw[if_neg h];exact q5h al ah bl bh kO w
theorem q6z{x y:Int}(h0:0<=x)(h1:x<=9223372036854775807)(h2:0<=y)(h3:y<=9223372036854775807):isV 19 x y=decide (x<y):=by
 rw[zL8];have a:=z4n h0 h1;have b:=z4n h2 h3;congr 1;rw[eq_iff_iff];omega
theorem q6y{x y:Int}(h0:0<=x)(h1:x<=9223372036854775807)(h2:0<=y)(h3:y<=9223372036854775807):isV 20 x y=decide (x<=y):=by
 rw[zL7];have a:=z4n h0 h1;have b:=z4n h2 h3;congr 1;rw[eq_iff_iff];omega
theorem zR8(al ah bl bh:Int)(pal: -9223372036854775808<=al)(qal:al<=9223372036854775807)(pah: -9223372036854775808<=ah)(qah:ah<=9223372036854775807)(pbl: -9223372036854775808<=bl)(qbl:bl<=9223372036854775807)(pbh: -9223372036854775808<=bh)(qbh:bh<=9223372036854775807)(oa:al<=ah)(ob:bl<=bh)(w:World):zR 224 #[A B 19,.agg #[A B al,A B ah],.agg #[A B bl,A B bh]] w (.tuple #[.agg #[A B (((unsV 1 al ah bl bh).1).1),A B (((unsV 1 al ah bl bh).1).2)],.agg #[A B (((unsV 1 al ah bl bh).2.1).1),A B (((unsV 1 al ah bl bh).2.1).2)],.bool ((unsV 1 al ah bl bh).2.2)]):=by
 unfold unsV
 by_cases hb:bl<0
 ·rw[if_pos hb]
  exact zZl al ah bl bh hb w
 rw[if_neg hb];have hb0:0<=bl:=kO;have hi:=q6z (x:=max al 0) (y:=bh) kO kO kO qbh;unfold belV
 by_cases h:max al 0<=ah
 ·by_cases h2:max al 0<bh
  ·rw[if_pos ⟨h,by omega⟩]
   exact zZk al ah bl bh hb0 h (by rw[hi];exact decide_eq_true h2) kO kO kO kO w
  ·rw[if_neg (fun x=>h2 kO)]
   exact zZm al ah bl bh hb0 h (by rw[hi];exact decide_eq_false h2) w
 rw[if_neg (fun x=>h x.1)];exact zZn al ah bl bh hb0 kO w
theorem zR7(al ah bl bh:Int)(pal: -9223372036854775808<=al)(qal:al<=9223372036854775807)(pah: -9223372036854775808<=ah)(qah:ah<=9223372036854775807)(pbl: -9223372036854775808<=bl)(qbl:bl<=9223372036854775807)(pbh: -9223372036854775808<=bh)(qbh:bh<=9223372036854775807)(oa:al<=ah)(ob:bl<=bh)(w:World):zR 224 #[A B 20,.agg #[A B al,A B ah],.agg #[A B bl,A B bh]] w (.tuple #[.agg #[A B (((unsV 0 al ah bl bh).1).1),A B (((unsV 0 al ah bl bh).1).2)],.agg #[A B (((unsV 0 al ah bl bh).2.1).1),A B (((unsV 0 al ah bl bh).2.1).2)],.bool ((unsV 0 al ah bl bh).2.2)]):=by
 unfold unsV
 by_cases hb:bl<0
 ·rw[if_pos hb]
  exact zZh al ah bl bh hb w
 rw[if_neg hb];have hb0:0<=bl:=kO;have hi:=q6y (x:=max al 0) (y:=bh) kO kO kO qbh;unfold belV
 by_cases h:max al 0<=ah
 ·by_cases h2:max al 0<=bh
  ·rw[if_pos ⟨h,by omega⟩]
   rw[show bh-0=bh by omega,show max al 0+0=max al 0 by omega];exact zZg al ah bl bh hb0 h (by rw[hi];exact decide_eq_true h2) kO kO kO kO w
  ·rw[if_neg (fun x=>h2 kO)]
   exact zZi al ah bl bh hb0 h (by rw[hi];exact decide_eq_false h2) w
 rw[if_neg (fun x=>h x.1)];exact zZj al ah bl bh hb0 kO w
theorem zR6(al ah bl bh:Int)(pal: -9223372036854775808<=al)(qal:al<=9223372036854775807)(pah: -9223372036854775808<=ah)(qah:ah<=9223372036854775807)(pbl: -9223372036854775808<=bl)(qbl:bl<=9223372036854775807)(pbh: -9223372036854775808<=bh)(qbh:bh<=9223372036854775807)(oa:al<=ah)(ob:bl<=bh)(w:World):zR 224 #[A B 23,.agg #[A B al,A B ah],.agg #[A B bl,A B bh]] w (.tuple #[.agg #[A B (((belV 1 al ah bl bh).1).1),A B (((belV 1 al ah bl bh).1).2)],.agg #[A B (((belV 1 al ah bl bh).2.1).1),A B (((belV 1 al ah bl bh).2.1).2)],.bool ((belV 1 al ah bl bh).2.2)]):=by
 have hi:=zL6 al bh;unfold belV
 by_cases h:al<=ah
 ·by_cases h2:al<bh
  ·rw[if_pos ⟨h,by omega⟩]
   exact zZd al ah bl bh h (by rw[hi];exact decide_eq_true h2) kO kO kO kO w
  ·rw[if_neg (fun x=>h2 kO)]
   exact zZe al ah bl bh h (by rw[hi];exact decide_eq_false h2) w
 rw[if_neg (fun x=>h x.1)];exact zZf al ah bl bh kO w
theorem zR5(al ah bl bh:Int)(pal: -9223372036854775808<=al)(qal:al<=9223372036854775807)(pah: -9223372036854775808<=ah)(qah:ah<=9223372036854775807)(pbl: -9223372036854775808<=bl)(qbl:bl<=9223372036854775807)(pbh: -9223372036854775808<=bh)(qbh:bh<=9223372036854775807)(oa:al<=ah)(ob:bl<=bh)(w:World):zR 224 #[A B 24,.agg #[A B al,A B ah],.agg #[A B bl,A B bh]] w (.tuple #[.agg #[A B (((belV 0 al ah bl bh).1).1),A B (((belV 0 al ah bl bh).1).2)],.agg #[A B (((belV 0 al ah bl bh).2.1).1),A B (((belV 0 al ah bl bh).2.1).2)],.bool ((belV 0 al ah bl bh).2.2)]):=by
 have hi:=zL5 al bh;unfold belV
 by_cases h:al<=ah
 ·by_cases h2:al<=bh
  ·rw[if_pos ⟨h,by omega⟩]
   rw[show bh-0=bh by omega,show al+0=al by omega];exact zZa al ah bl bh h (by rw[hi];exact decide_eq_true h2) kO kO kO kO w
  ·rw[if_neg (fun x=>h2 kO)]
   exact zZb al ah bl bh h (by rw[hi];exact decide_eq_false h2) w
 rw[if_neg (fun x=>h x.1)];exact zZc al ah bl bh kO w
theorem q3p(al ah bl bh:Int)(pal: -9223372036854775808<=al)(qal:al<=9223372036854775807)(pah: -9223372036854775808<=ah)(qah:ah<=9223372036854775807)(pbl: -9223372036854775808<=bl)(qbl:bl<=9223372036854775807)(pbh: -9223372036854775808<=bh)(qbh:bh<=9223372036854775807)(oa:al<=ah)(ob:bl<=bh)(w:World):zR 223 #[.agg #[A B al,A B ah],.agg #[A B bl,A B bh]] w (.tuple #[.agg #[A B (((apV al ah bl bh).1).1),A B (((apV al ah bl bh).1).2)],.agg #[A B (((apV al ah bl bh).2.1).1),A B (((apV al ah bl bh).2.1).2)],.bool ((apV al ah bl bh).2.2)]):=by
 unfold apV
 by_cases h0:al=bl
 ·subst h0
  by_cases h1:ah=bh
  ·subst h1
   by_cases h2:ah=al
   ·rw[if_pos ⟨rfl,rfl,h2⟩]
    subst h2;exact q3o ah w
   ·rw[if_neg (fun x=>h2 x.2.2)]
    exact q3n al ah pal qal pah qah oa h2 w
  ·rw[if_neg (fun x=>h1 x.2.1)]
   exact q3l al ah bh pal qal pah qah pbh qbh oa ob h1 w
 rw[if_neg (fun x=>h0 x.1)];exact q3m al ah bl bh pal qal pah qah pbl qbl pbh qbh oa ob h0 w
def Outs(n L U:Nat)(x0 x1 y0 y1:Int)(w:World):Prop:=
 w.cell? ⟨n+1+1,0,none⟩=some (A B 0)/\w.cell? ⟨n+1+1,1,none⟩=some (A B 0)/\w.frozen? ⟨n+1+1,0,none⟩=false/\w.frozen? ⟨n+1+1,1,none⟩=false
 /\w.cell? ⟨n+1+1+1,0,none⟩=some (A B 0)/\w.cell? ⟨n+1+1+1,1,none⟩=some (A B 0)/\w.frozen? ⟨n+1+1+1,0,none⟩=false/\w.frozen? ⟨n+1+1+1,1,none⟩=false
 /\w.cell? ⟨L,0,none⟩=some (A B x0)/\w.cell? ⟨L,1,none⟩=some (A B x1)/\w.cell? ⟨U,0,none⟩=some (A B y0)/\w.cell? ⟨U,1,none⟩=some (A B y1)
 /\L≠n+1+1/\L≠n+1+1+1/\U≠n+1+1/\U≠n+1+1+1
attribute [local simp] z05 z0a z06
theorem nar_15(al ah bl bh:Int)(pal: -9223372036854775808<=al)(qal:al<=9223372036854775807)(pah: -9223372036854775808<=ah)(qah:ah<=9223372036854775807)(pbl: -9223372036854775808<=bl)(qbl:bl<=9223372036854775807)(pbh: -9223372036854775808<=bh)(qbh:bh<=9223372036854775807)(oa:al<=ah)(ob:bl<=bh)(w:World):zR 218 #[A B 15,.agg #[A B al,A B ah],.agg #[A B bl,A B bh]] w (.tuple #[.agg #[A B (((z6a al ah bl bh).1).1),A B (((z6a al ah bl bh).1).2)],.agg #[A B (((z6a al ah bl bh).1).1),A B (((z6a al ah bl bh).1).2)],.bool ((z6a al ah bl bh).2)]):=by
 go_enter Tryz.func218,Tryz.ntmps218;go_wp2_with(first|(go_at_call 222;refine(q5i _ _ _ _ _).mono ?_;rintro e w1 ⟨rfl,hb1⟩;have hX1:Quad w.heap.size al ah bl bh w1:=Quad.later (by first|exact hX1|(refine⟨?_,?_,?_,?_,?_,?_,?_,?_,?_,?_,?_,?_,?_,?_,?_,?_,?_⟩<;>simp[go_sem])) hb1;have hbw1:Below w.heap.size w w1:=kT hb1;have hY:=hX1;obtain⟨t0,a0,a1,af0,af1,b0,b1,bf0,bf1,r0,r1,rf0,rf1,s0,s1,sf0,sf1⟩:=hY;have u2:w.heap.size+1+1<w1.heap.size:=kO;have u0:w.heap.size<w1.heap.size:=kO;have u1:w.heap.size+1<w1.heap.size:=kO))
 all_goals go_region
 all_goals go_wp2
 all_goals exact bodyPost_ret (v:= .tuple #[.agg #[A B (((z6a al ah bl bh).1).1),A B (((z6a al ah bl bh).1).2)],.agg #[A B (((z6a al ah bl bh).1).1),A B (((z6a al ah bl bh).1).2)],.bool ((z6a al ah bl bh).2)]) (by simp[results,Tryz.results218,go_sem,r0,r1,s0,s1,u2,t0]) rfl ⟨rfl,kB⟩
theorem nar_16(al ah bl bh:Int)(pal: -9223372036854775808<=al)(qal:al<=9223372036854775807)(pah: -9223372036854775808<=ah)(qah:ah<=9223372036854775807)(pbl: -9223372036854775808<=bl)(qbl:bl<=9223372036854775807)(pbh: -9223372036854775808<=bh)(qbh:bh<=9223372036854775807)(oa:al<=ah)(ob:bl<=bh)(w:World):zR 218 #[A B 16,.agg #[A B al,A B ah],.agg #[A B bl,A B bh]] w (.tuple #[.agg #[A B (((apV al ah bl bh).1).1),A B (((apV al ah bl bh).1).2)],.agg #[A B (((apV al ah bl bh).2.1).1),A B (((apV al ah bl bh).2.1).2)],.bool ((apV al ah bl bh).2.2)]):=by
 go_enter Tryz.func218,Tryz.ntmps218;go_wp2_with(first|(go_at_call 223;refine(q3p _ _ _ _ pal qal pah qah pbl qbl pbh qbh oa ob _).mono ?_;rintro e w1 ⟨rfl,hb1⟩;have hX1:Quad w.heap.size al ah bl bh w1:=Quad.later (by first|exact hX1|(refine⟨?_,?_,?_,?_,?_,?_,?_,?_,?_,?_,?_,?_,?_,?_,?_,?_,?_⟩<;>simp[go_sem])) hb1;have hbw1:Below w.heap.size w w1:=kT hb1;have hY:=hX1;obtain⟨t0,a0,a1,af0,af1,b0,b1,bf0,bf1,r0,r1,rf0,rf1,s0,s1,sf0,sf1⟩:=hY;have u2:w.heap.size+1+1<w1.heap.size:=kO;have u0:w.heap.size<w1.heap.size:=kO;have u1:w.heap.size+1<w1.heap.size:=kO))
 all_goals exact bodyPost_ret (v:= .tuple #[.agg #[A B (((apV al ah bl bh).1).1),A B (((apV al ah bl bh).1).2)],.agg #[A B (((apV al ah bl bh).2.1).1),A B (((apV al ah bl bh).2.1).2)],.bool ((apV al ah bl bh).2.2)]) (by simp[results,Tryz.results218,go_sem,r0,r1,s0,s1]) rfl ⟨rfl,kB⟩
theorem nar_19(al ah bl bh:Int)(pal: -9223372036854775808<=al)(qal:al<=9223372036854775807)(pah: -9223372036854775808<=ah)(qah:ah<=9223372036854775807)(pbl: -9223372036854775808<=bl)(qbl:bl<=9223372036854775807)(pbh: -9223372036854775808<=bh)(qbh:bh<=9223372036854775807)(oa:al<=ah)(ob:bl<=bh)(w:World):zR 218 #[A B 19,.agg #[A B al,A B ah],.agg #[A B bl,A B bh]] w (.tuple #[.agg #[A B (((unsV 1 al ah bl bh).1).1),A B (((unsV 1 al ah bl bh).1).2)],.agg #[A B (((unsV 1 al ah bl bh).2.1).1),A B (((unsV 1 al ah bl bh).2.1).2)],.bool ((unsV 1 al ah bl bh).2.2)]):=by
 go_enter Tryz.func218,Tryz.ntmps218;go_wp2_with(first|(go_at_call 224;refine(zR8 _ _ _ _ pal qal pah qah pbl qbl pbh qbh oa ob _).mono ?_;rintro e w1 ⟨rfl,hb1⟩;have hX1:Quad w.heap.size al ah bl bh w1:=Quad.later (by first|exact hX1|(refine⟨?_,?_,?_,?_,?_,?_,?_,?_,?_,?_,?_,?_,?_,?_,?_,?_,?_⟩<;>simp[go_sem])) hb1;have hbw1:Below w.heap.size w w1:=kT hb1;have hY:=hX1;obtain⟨t0,a0,a1,af0,af1,b0,b1,bf0,bf1,r0,r1,rf0,rf1,s0,s1,sf0,sf1⟩:=hY;have u2:w.heap.size+1+1<w1.heap.size:=kO;have u0:w.heap.size<w1.heap.size:=kO;have u1:w.heap.size+1<w1.heap.size:=kO))
 all_goals exact bodyPost_ret (v:= .tuple #[.agg #[A B (((unsV 1 al ah bl bh).1).1),A B (((unsV 1 al ah bl bh).1).2)],.agg #[A B (((unsV 1 al ah bl bh).2.1).1),A B (((unsV 1 al ah bl bh).2.1).2)],.bool ((unsV 1 al ah bl bh).2.2)]) (by simp[results,Tryz.results218,go_sem,r0,r1,s0,s1]) rfl ⟨rfl,kB⟩
theorem nar_20(al ah bl bh:Int)(pal: -9223372036854775808<=al)(qal:al<=9223372036854775807)(pah: -9223372036854775808<=ah)(qah:ah<=9223372036854775807)(pbl: -9223372036854775808<=bl)(qbl:bl<=9223372036854775807)(pbh: -9223372036854775808<=bh)(qbh:bh<=9223372036854775807)(oa:al<=ah)(ob:bl<=bh)(w:World):zR 218 #[A B 20,.agg #[A B al,A B ah],.agg #[A B bl,A B bh]] w (.tuple #[.agg #[A B (((unsV 0 al ah bl bh).1).1),A B (((unsV 0 al ah bl bh).1).2)],.agg #[A B (((unsV 0 al ah bl bh).2.1).1),A B (((unsV 0 al ah bl bh).2.1).2)],.bool ((unsV 0 al ah bl bh).2.2)]):=by
 go_enter Tryz.func218,Tryz.ntmps218;go_wp2_with(first|(go_at_call 224;refine(zR7 _ _ _ _ pal qal pah qah pbl qbl pbh qbh oa ob _).mono ?_;rintro e w1 ⟨rfl,hb1⟩;have hX1:Quad w.heap.size al ah bl bh w1:=Quad.later (by first|exact hX1|(refine⟨?_,?_,?_,?_,?_,?_,?_,?_,?_,?_,?_,?_,?_,?_,?_,?_,?_⟩<;>simp[go_sem])) hb1;have hbw1:Below w.heap.size w w1:=kT hb1;have hY:=hX1;obtain⟨t0,a0,a1,af0,af1,b0,b1,bf0,bf1,r0,r1,rf0,rf1,s0,s1,sf0,sf1⟩:=hY;have u2:w.heap.size+1+1<w1.heap.size:=kO;have u0:w.heap.size<w1.heap.size:=kO;have u1:w.heap.size+1<w1.heap.size:=kO))
 all_goals exact bodyPost_ret (v:= .tuple #[.agg #[A B (((unsV 0 al ah bl bh).1).1),A B (((unsV 0 al ah bl bh).1).2)],.agg #[A B (((unsV 0 al ah bl bh).2.1).1),A B (((unsV 0 al ah bl bh).2.1).2)],.bool ((unsV 0 al ah bl bh).2.2)]) (by simp[results,Tryz.results218,go_sem,r0,r1,s0,s1]) rfl ⟨rfl,kB⟩
theorem nar_23(al ah bl bh:Int)(pal: -9223372036854775808<=al)(qal:al<=9223372036854775807)(pah: -9223372036854775808<=ah)(qah:ah<=9223372036854775807)(pbl: -9223372036854775808<=bl)(qbl:bl<=9223372036854775807)(pbh: -9223372036854775808<=bh)(qbh:bh<=9223372036854775807)(oa:al<=ah)(ob:bl<=bh)(w:World):zR 218 #[A B 23,.agg #[A B al,A B ah],.agg #[A B bl,A B bh]] w (.tuple #[.agg #[A B (((belV 1 al ah bl bh).1).1),A B (((belV 1 al ah bl bh).1).2)],.agg #[A B (((belV 1 al ah bl bh).2.1).1),A B (((belV 1 al ah bl bh).2.1).2)],.bool ((belV 1 al ah bl bh).2.2)]):=by
 go_enter Tryz.func218,Tryz.ntmps218;go_wp2_with(first|(go_at_call 224;refine(zR6 _ _ _ _ pal qal pah qah pbl qbl pbh qbh oa ob _).mono ?_;rintro e w1 ⟨rfl,hb1⟩;have hX1:Quad w.heap.size al ah bl bh w1:=Quad.later (by first|exact hX1|(refine⟨?_,?_,?_,?_,?_,?_,?_,?_,?_,?_,?_,?_,?_,?_,?_,?_,?_⟩<;>simp[go_sem])) hb1;have hbw1:Below w.heap.size w w1:=kT hb1;have hY:=hX1;obtain⟨t0,a0,a1,af0,af1,b0,b1,bf0,bf1,r0,r1,rf0,rf1,s0,s1,sf0,sf1⟩:=hY;have u2:w.heap.size+1+1<w1.heap.size:=kO;have u0:w.heap.size<w1.heap.size:=kO;have u1:w.heap.size+1<w1.heap.size:=kO))
 all_goals exact bodyPost_ret (v:= .tuple #[.agg #[A B (((belV 1 al ah bl bh).1).1),A B (((belV 1 al ah bl bh).1).2)],.agg #[A B (((belV 1 al ah bl bh).2.1).1),A B (((belV 1 al ah bl bh).2.1).2)],.bool ((belV 1 al ah bl bh).2.2)]) (by simp[results,Tryz.results218,go_sem,r0,r1,s0,s1]) rfl ⟨rfl,kB⟩
theorem nar_24(al ah bl bh:Int)(pal: -9223372036854775808<=al)(qal:al<=9223372036854775807)(pah: -9223372036854775808<=ah)(qah:ah<=9223372036854775807)(pbl: -9223372036854775808<=bl)(qbl:bl<=9223372036854775807)(pbh: -9223372036854775808<=bh)(qbh:bh<=9223372036854775807)(oa:al<=ah)(ob:bl<=bh)(w:World):zR 218 #[A B 24,.agg #[A B al,A B ah],.agg #[A B bl,A B bh]] w (.tuple #[.agg #[A B (((belV 0 al ah bl bh).1).1),A B (((belV 0 al ah bl bh).1).2)],.agg #[A B (((belV 0 al ah bl bh).2.1).1),A B (((belV 0 al ah bl bh).2.1).2)],.bool ((belV 0 al ah bl bh).2.2)]):=by
 go_enter Tryz.func218,Tryz.ntmps218;go_wp2_with(first|(go_at_call 224;refine(zR5 _ _ _ _ pal qal pah qah pbl qbl pbh qbh oa ob _).mono ?_;rintro e w1 ⟨rfl,hb1⟩;have hX1:Quad w.heap.size al ah bl bh w1:=Quad.later (by first|exact hX1|(refine⟨?_,?_,?_,?_,?_,?_,?_,?_,?_,?_,?_,?_,?_,?_,?_,?_,?_⟩<;>simp[go_sem])) hb1;have hbw1:Below w.heap.size w w1:=kT hb1;have hY:=hX1;obtain⟨t0,a0,a1,af0,af1,b0,b1,bf0,bf1,r0,r1,rf0,rf1,s0,s1,sf0,sf1⟩:=hY;have u2:w.heap.size+1+1<w1.heap.size:=kO;have u0:w.heap.size<w1.heap.size:=kO;have u1:w.heap.size+1<w1.heap.size:=kO))
 all_goals exact bodyPost_ret (v:= .tuple #[.agg #[A B (((belV 0 al ah bl bh).1).1),A B (((belV 0 al ah bl bh).1).2)],.agg #[A B (((belV 0 al ah bl bh).2.1).1),A B (((belV 0 al ah bl bh).2.1).2)],.bool ((belV 0 al ah bl bh).2.2)]) (by simp[results,Tryz.results218,go_sem,r0,r1,s0,s1]) rfl ⟨rfl,kB⟩
theorem nar_no(k al ah bl bh:Int)(hk:k<15\/24<k)(w:World):zR 218 #[A B k,.agg #[A B al,A B ah],.agg #[A B bl,A B bh]] w (.tuple #[.agg #[A B al,A B ah],.agg #[A B bl,A B bh],.bool true]):=by
 have e15:(k==15)=false:=kZ;have e16:(k==16)=false:=kZ;have e17:(k==17)=false:=kZ;have e18:(k==18)=false:=kZ;have e19:(k==19)=false:=kZ;have e20:(k==20)=false:=kZ;have e21:(k==21)=false:=kZ;have e22:(k==22)=false:=kZ;have e23:(k==23)=false:=kZ;have e24:(k==24)=false:=kZ;go_enter Tryz.func218,Tryz.ntmps218;go_wp2_with fail
 all_goals go_region
 all_goals go_wp2
 all_goals exact bodyPost_ret (v:= .tuple #[.agg #[A B al,A B ah],.agg #[A B bl,A B bh],.bool true]) (by simp[results,Tryz.results218,go_sem]) rfl ⟨rfl,kB⟩
theorem nar_17(al ah bl bh:Int)(pal: -9223372036854775808<=al)(qal:al<=9223372036854775807)(pah: -9223372036854775808<=ah)(qah:ah<=9223372036854775807)(pbl: -9223372036854775808<=bl)(qbl:bl<=9223372036854775807)(pbh: -9223372036854775808<=bh)(qbh:bh<=9223372036854775807)(oa:al<=ah)(ob:bl<=bh)(w:World):zR 218 #[A B 17,.agg #[A B al,A B ah],.agg #[A B bl,A B bh]] w (.tuple #[.agg #[A B (((unsV 1 bl bh al ah).2.1).1),A B (((unsV 1 bl bh al ah).2.1).2)],.agg #[A B (((unsV 1 bl bh al ah).1).1),A B (((unsV 1 bl bh al ah).1).2)],.bool ((unsV 1 bl bh al ah).2.2)]):=by
 go_enter Tryz.func218,Tryz.ntmps218;go_wp2_with fail;go_cut [11,12,13] (fun s11 s12 s13 wx=> ∃L U:Nat,s11= pT (some ⟨L,0,none⟩)/\s12= pT (some ⟨U,0,none⟩)/\s13= .bool (unsV 1 bl bh al ah).2.2/\Below w.heap.size w wx/\Outs w.heap.size L U (unsV 1 bl bh al ah).1.1 (unsV 1 bl bh al ah).1.2 (unsV 1 bl bh al ah).2.1.1 (unsV 1 bl bh al ah).2.1.2 wx)
 case first=>
  go_region_held3 (fun w'=>w'.cell? ⟨w.heap.size,0,none⟩=some (A B al)/\w'.cell? ⟨w.heap.size,1,none⟩=some (A B ah)/\w'.cell? ⟨w.heap.size+1,0,none⟩=some (A B bl)/\w'.cell? ⟨w.heap.size+1,1,none⟩=some (A B bh)) (first|(simp[go_sem];done)|(simp[go_sem, *];done)|go_keep) (first|(go_at_call 225;refine(zVg _).mono ?_;rintro e w' ⟨rfl,rfl⟩)|(go_at_call 224;refine(zR8 _ _ _ _ pbl qbl pbh qbh pal qal pah qah ob oa _).mono ?_;rintro e w1 ⟨rfl,hb1⟩;have hX1:Quad w.heap.size al ah bl bh w1:=Quad.later (by first|exact hX1|(refine⟨?_,?_,?_,?_,?_,?_,?_,?_,?_,?_,?_,?_,?_,?_,?_,?_,?_⟩<;>simp[go_sem])) hb1;have hbw1:Below w.heap.size w w1:=kT hb1;have hY:=hX1;obtain⟨t0,a0,a1,af0,af1,b0,b1,bf0,bf1,r0,r1,rf0,rf1,s0,s1,sf0,sf1⟩:=hY;have u2:w.heap.size+1+1<w1.heap.size:=kO;have u0:w.heap.size<w1.heap.size:=kO;have u1:w.heap.size+1<w1.heap.size:=kO;have v4:=z2z hb1 (w.heap.size+1+1+1+1);have v5:=z2z hb1 (w.heap.size+1+1+1+1+1);(try simp[go_sem]at v4);(try simp[go_sem]at v5)))
  all_goals(go_wp2_with fail;go_meet)
  all_goals exact⟨_,_,rfl,rfl,rfl,kB,by refine⟨?_,?_,?_,?_,?_,?_,?_,?_,?_,?_,?_,?_,?_,?_,?_,?_⟩<;>first|(simp[go_sem, *];done)|omega|(simp;omega)⟩
 case rest=>
 obtain⟨L,U,rfl,rfl,rfl,hbw,r0,r1,rf0,rf1,s0,s1,sf0,sf1,l0,l1,m0,m1,n0,n1,n2,n3⟩:=hcut;go_wp2_with fail
 all_goals go_region
 all_goals go_wp2
 all_goals exact bodyPost_ret (v:= .tuple #[.agg #[A B (((unsV 1 bl bh al ah).2.1).1),A B (((unsV 1 bl bh al ah).2.1).2)],.agg #[A B (((unsV 1 bl bh al ah).1).1),A B (((unsV 1 bl bh al ah).1).2)],.bool ((unsV 1 bl bh al ah).2.2)]) (by simp[results,Tryz.results218,go_sem,r0,r1,s0,s1]) rfl ⟨rfl,kB⟩
theorem nar_18(al ah bl bh:Int)(pal: -9223372036854775808<=al)(qal:al<=9223372036854775807)(pah: -9223372036854775808<=ah)(qah:ah<=9223372036854775807)(pbl: -9223372036854775808<=bl)(qbl:bl<=9223372036854775807)(pbh: -9223372036854775808<=bh)(qbh:bh<=9223372036854775807)(oa:al<=ah)(ob:bl<=bh)(w:World):zR 218 #[A B 18,.agg #[A B al,A B ah],.agg #[A B bl,A B bh]] w (.tuple #[.agg #[A B (((unsV 0 bl bh al ah).2.1).1),A B (((unsV 0 bl bh al ah).2.1).2)],.agg #[A B (((unsV 0 bl bh al ah).1).1),A B (((unsV 0 bl bh al ah).1).2)],.bool ((unsV 0 bl bh al ah).2.2)]):=by
 go_enter Tryz.func218,Tryz.ntmps218;go_wp2_with fail;go_cut [11,12,13] (fun s11 s12 s13 wx=> ∃L U:Nat,s11= pT (some ⟨L,0,none⟩)/\s12= pT (some ⟨U,0,none⟩)/\s13= .bool (unsV 0 bl bh al ah).2.2/\Below w.heap.size w wx/\Outs w.heap.size L U (unsV 0 bl bh al ah).1.1 (unsV 0 bl bh al ah).1.2 (unsV 0 bl bh al ah).2.1.1 (unsV 0 bl bh al ah).2.1.2 wx)
 case first=>
  go_region_held3 (fun w'=>w'.cell? ⟨w.heap.size,0,none⟩=some (A B al)/\w'.cell? ⟨w.heap.size,1,none⟩=some (A B ah)/\w'.cell? ⟨w.heap.size+1,0,none⟩=some (A B bl)/\w'.cell? ⟨w.heap.size+1,1,none⟩=some (A B bh)) (first|(simp[go_sem];done)|(simp[go_sem, *];done)|go_keep) (first|(go_at_call 225;refine(zVf _).mono ?_;rintro e w' ⟨rfl,rfl⟩)|(go_at_call 224;refine(zR7 _ _ _ _ pbl qbl pbh qbh pal qal pah qah ob oa _).mono ?_;rintro e w1 ⟨rfl,hb1⟩;have hX1:Quad w.heap.size al ah bl bh w1:=Quad.later (by first|exact hX1|(refine⟨?_,?_,?_,?_,?_,?_,?_,?_,?_,?_,?_,?_,?_,?_,?_,?_,?_⟩<;>simp[go_sem])) hb1;have hbw1:Below w.heap.size w w1:=kT hb1;have hY:=hX1;obtain⟨t0,a0,a1,af0,af1,b0,b1,bf0,bf1,r0,r1,rf0,rf1,s0,s1,sf0,sf1⟩:=hY;have u2:w.heap.size+1+1<w1.heap.size:=kO;have u0:w.heap.size<w1.heap.size:=kO;have u1:w.heap.size+1<w1.heap.size:=kO;have v4:=z2z hb1 (w.heap.size+1+1+1+1);have v5:=z2z hb1 (w.heap.size+1+1+1+1+1);(try simp[go_sem]at v4);(try simp[go_sem]at v5)))
  all_goals(go_wp2_with fail;go_meet)
  all_goals exact⟨_,_,rfl,rfl,rfl,kB,by refine⟨?_,?_,?_,?_,?_,?_,?_,?_,?_,?_,?_,?_,?_,?_,?_,?_⟩<;>first|(simp[go_sem, *];done)|omega|(simp;omega)⟩
 case rest=>
 obtain⟨L,U,rfl,rfl,rfl,hbw,r0,r1,rf0,rf1,s0,s1,sf0,sf1,l0,l1,m0,m1,n0,n1,n2,n3⟩:=hcut;go_wp2_with fail
 all_goals go_region
 all_goals go_wp2
 all_goals exact bodyPost_ret (v:= .tuple #[.agg #[A B (((unsV 0 bl bh al ah).2.1).1),A B (((unsV 0 bl bh al ah).2.1).2)],.agg #[A B (((unsV 0 bl bh al ah).1).1),A B (((unsV 0 bl bh al ah).1).2)],.bool ((unsV 0 bl bh al ah).2.2)]) (by simp[results,Tryz.results218,go_sem,r0,r1,s0,s1]) rfl ⟨rfl,kB⟩
theorem nar_21(al ah bl bh:Int)(pal: -9223372036854775808<=al)(qal:al<=9223372036854775807)(pah: -9223372036854775808<=ah)(qah:ah<=9223372036854775807)(pbl: -9223372036854775808<=bl)(qbl:bl<=9223372036854775807)(pbh: -9223372036854775808<=bh)(qbh:bh<=9223372036854775807)(oa:al<=ah)(ob:bl<=bh)(w:World):zR 218 #[A B 21,.agg #[A B al,A B ah],.agg #[A B bl,A B bh]] w (.tuple #[.agg #[A B (((belV 1 bl bh al ah).2.1).1),A B (((belV 1 bl bh al ah).2.1).2)],.agg #[A B (((belV 1 bl bh al ah).1).1),A B (((belV 1 bl bh al ah).1).2)],.bool ((belV 1 bl bh al ah).2.2)]):=by
 go_enter Tryz.func218,Tryz.ntmps218;go_wp2_with fail;go_cut [11,12,13] (fun s11 s12 s13 wx=> ∃L U:Nat,s11= pT (some ⟨L,0,none⟩)/\s12= pT (some ⟨U,0,none⟩)/\s13= .bool (belV 1 bl bh al ah).2.2/\Below w.heap.size w wx/\Outs w.heap.size L U (belV 1 bl bh al ah).1.1 (belV 1 bl bh al ah).1.2 (belV 1 bl bh al ah).2.1.1 (belV 1 bl bh al ah).2.1.2 wx)
 case first=>
  go_region_held3 (fun w'=>w'.cell? ⟨w.heap.size,0,none⟩=some (A B al)/\w'.cell? ⟨w.heap.size,1,none⟩=some (A B ah)/\w'.cell? ⟨w.heap.size+1,0,none⟩=some (A B bl)/\w'.cell? ⟨w.heap.size+1,1,none⟩=some (A B bh)) (first|(simp[go_sem];done)|(simp[go_sem, *];done)|go_keep) (first|(go_at_call 225;refine(zVe _).mono ?_;rintro e w' ⟨rfl,rfl⟩)|(go_at_call 224;refine(zR6 _ _ _ _ pbl qbl pbh qbh pal qal pah qah ob oa _).mono ?_;rintro e w1 ⟨rfl,hb1⟩;have hX1:Quad w.heap.size al ah bl bh w1:=Quad.later (by first|exact hX1|(refine⟨?_,?_,?_,?_,?_,?_,?_,?_,?_,?_,?_,?_,?_,?_,?_,?_,?_⟩<;>simp[go_sem])) hb1;have hbw1:Below w.heap.size w w1:=kT hb1;have hY:=hX1;obtain⟨t0,a0,a1,af0,af1,b0,b1,bf0,bf1,r0,r1,rf0,rf1,s0,s1,sf0,sf1⟩:=hY;have u2:w.heap.size+1+1<w1.heap.size:=kO;have u0:w.heap.size<w1.heap.size:=kO;have u1:w.heap.size+1<w1.heap.size:=kO;have v4:=z2z hb1 (w.heap.size+1+1+1+1);have v5:=z2z hb1 (w.heap.size+1+1+1+1+1);(try simp[go_sem]at v4);(try simp[go_sem]at v5)))
  all_goals(go_wp2_with fail;go_meet)
  all_goals exact⟨_,_,rfl,rfl,rfl,kB,by refine⟨?_,?_,?_,?_,?_,?_,?_,?_,?_,?_,?_,?_,?_,?_,?_,?_⟩<;>first|(simp[go_sem, *];done)|omega|(simp;omega)⟩
 case rest=>
 obtain⟨L,U,rfl,rfl,rfl,hbw,r0,r1,rf0,rf1,s0,s1,sf0,sf1,l0,l1,m0,m1,n0,n1,n2,n3⟩:=hcut;go_wp2_with fail
 all_goals go_region
 all_goals go_wp2
 all_goals exact bodyPost_ret (v:= .tuple #[.agg #[A B (((belV 1 bl bh al ah).2.1).1),A B (((belV 1 bl bh al ah).2.1).2)],.agg #[A B (((belV 1 bl bh al ah).1).1),A B (((belV 1 bl bh al ah).1).2)],.bool ((belV 1 bl bh al ah).2.2)]) (by simp[results,Tryz.results218,go_sem,r0,r1,s0,s1]) rfl ⟨rfl,kB⟩
theorem nar_22(al ah bl bh:Int)(pal: -9223372036854775808<=al)(qal:al<=9223372036854775807)(pah: -9223372036854775808<=ah)(qah:ah<=9223372036854775807)(pbl: -9223372036854775808<=bl)(qbl:bl<=9223372036854775807)(pbh: -9223372036854775808<=bh)(qbh:bh<=9223372036854775807)(oa:al<=ah)(ob:bl<=bh)(w:World):zR 218 #[A B 22,.agg #[A B al,A B ah],.agg #[A B bl,A B bh]] w (.tuple #[.agg #[A B (((belV 0 bl bh al ah).2.1).1),A B (((belV 0 bl bh al ah).2.1).2)],.agg #[A B (((belV 0 bl bh al ah).1).1),A B (((belV 0 bl bh al ah).1).2)],.bool ((belV 0 bl bh al ah).2.2)]):=by
 go_enter Tryz.func218,Tryz.ntmps218;go_wp2_with fail;go_cut [11,12,13] (fun s11 s12 s13 wx=> ∃L U:Nat,s11= pT (some ⟨L,0,none⟩)/\s12= pT (some ⟨U,0,none⟩)/\s13= .bool (belV 0 bl bh al ah).2.2/\Below w.heap.size w wx/\Outs w.heap.size L U (belV 0 bl bh al ah).1.1 (belV 0 bl bh al ah).1.2 (belV 0 bl bh al ah).2.1.1 (belV 0 bl bh al ah).2.1.2 wx)
 case first=>
  go_region_held3 (fun w'=>w'.cell? ⟨w.heap.size,0,none⟩=some (A B al)/\w'.cell? ⟨w.heap.size,1,none⟩=some (A B ah)/\w'.cell? ⟨w.heap.size+1,0,none⟩=some (A B bl)/\w'.cell? ⟨w.heap.size+1,1,none⟩=some (A B bh)) (first|(simp[go_sem];done)|(simp[go_sem, *];done)|go_keep) (first|(go_at_call 225;refine(zVd _).mono ?_;rintro e w' ⟨rfl,rfl⟩)|(go_at_call 224;refine(zR5 _ _ _ _ pbl qbl pbh qbh pal qal pah qah ob oa _).mono ?_;rintro e w1 ⟨rfl,hb1⟩;have hX1:Quad w.heap.size al ah bl bh w1:=Quad.later (by first|exact hX1|(refine⟨?_,?_,?_,?_,?_,?_,?_,?_,?_,?_,?_,?_,?_,?_,?_,?_,?_⟩<;>simp[go_sem])) hb1;have hbw1:Below w.heap.size w w1:=kT hb1;have hY:=hX1;obtain⟨t0,a0,a1,af0,af1,b0,b1,bf0,bf1,r0,r1,rf0,rf1,s0,s1,sf0,sf1⟩:=hY;have u2:w.heap.size+1+1<w1.heap.size:=kO;have u0:w.heap.size<w1.heap.size:=kO;have u1:w.heap.size+1<w1.heap.size:=kO;have v4:=z2z hb1 (w.heap.size+1+1+1+1);have v5:=z2z hb1 (w.heap.size+1+1+1+1+1);(try simp[go_sem]at v4);(try simp[go_sem]at v5)))
  all_goals(go_wp2_with fail;go_meet)
  all_goals exact⟨_,_,rfl,rfl,rfl,kB,by refine⟨?_,?_,?_,?_,?_,?_,?_,?_,?_,?_,?_,?_,?_,?_,?_,?_⟩<;>first|(simp[go_sem, *];done)|omega|(simp;omega)⟩
 case rest=>
 obtain⟨L,U,rfl,rfl,rfl,hbw,r0,r1,rf0,rf1,s0,s1,sf0,sf1,l0,l1,m0,m1,n0,n1,n2,n3⟩:=hcut;go_wp2_with fail
 all_goals go_region
 all_goals go_wp2
 all_goals exact bodyPost_ret (v:= .tuple #[.agg #[A B (((belV 0 bl bh al ah).2.1).1),A B (((belV 0 bl bh al ah).2.1).2)],.agg #[A B (((belV 0 bl bh al ah).1).1),A B (((belV 0 bl bh al ah).1).2)],.bool ((belV 0 bl bh al ah).2.2)]) (by simp[results,Tryz.results218,go_sem,r0,r1,s0,s1]) rfl ⟨rfl,kB⟩
end
section
open Go.RowKit
theorem zWt{c x y:Int}(h:15<=c/\c<=24):(isV c x y==isV (oppV c) x y)=false/\oppV (oppV c)=c/\15<=oppV c/\oppV c<=24:=by
 have e:c=15\/c=16\/c=17\/c=18\/c=19\/c=20\/c=21\/c=22\/c=23\/c=24:=kO;rcases e with rfl|rfl|rfl|rfl|rfl|rfl|rfl|rfl|rfl|rfl
 ·refine⟨?_,by decide,by decide,by decide⟩
  show(isV 15 x y==isV 16 x y)=false;rw[zQl,zQk];cases decide (x=y)<;>rfl
 ·refine⟨?_,by decide,by decide,by decide⟩
  show(isV 16 x y==isV 15 x y)=false;rw[zQl,zQk];cases decide (x=y)<;>rfl
 ·refine⟨?_,by decide,by decide,by decide⟩
  show(isV 17 x y==isV 20 x y)=false;rw[zQj,zL7,beq_eq_false_iff_ne,ne_eq,decide_eq_decide];omega
 ·refine⟨?_,by decide,by decide,by decide⟩
  show(isV 18 x y==isV 19 x y)=false;rw[zQi,zL8,beq_eq_false_iff_ne,ne_eq,decide_eq_decide];omega
 ·refine⟨?_,by decide,by decide,by decide⟩
  show(isV 19 x y==isV 18 x y)=false;rw[zQi,zL8,beq_eq_false_iff_ne,ne_eq,decide_eq_decide];omega
 ·refine⟨?_,by decide,by decide,by decide⟩
  show(isV 20 x y==isV 17 x y)=false;rw[zQj,zL7,beq_eq_false_iff_ne,ne_eq,decide_eq_decide];omega
 ·refine⟨?_,by decide,by decide,by decide⟩
  show(isV 21 x y==isV 24 x y)=false;rw[zQh,zL5,beq_eq_false_iff_ne,ne_eq,decide_eq_decide];omega
 ·refine⟨?_,by decide,by decide,by decide⟩
  show(isV 22 x y==isV 23 x y)=false;rw[zQg,zL6,beq_eq_false_iff_ne,ne_eq,decide_eq_decide];omega
 ·refine⟨?_,by decide,by decide,by decide⟩
  show(isV 23 x y==isV 22 x y)=false;rw[zQg,zL6,beq_eq_false_iff_ne,ne_eq,decide_eq_decide];omega
 refine⟨?_,by decide,by decide,by decide⟩;show(isV 24 x y==isV 21 x y)=false;rw[zQh,zL5,beq_eq_false_iff_ne,ne_eq,decide_eq_decide];omega
def zC3(r:(Int×Int)×(Int×Int)×Bool)(al ah bl bh x y:Int)(is:Prop):Prop:=
 (is->r.2.2=true/\(r.1.1<=x/\x<=r.1.2)/\r.2.1.1<=y/\y<=r.2.1.2)/\(r.2.2=true->r.1.1<=r.1.2/\r.2.1.1<=r.2.1.2/\al<=r.1.1/\r.1.2<=ah/\bl<=r.2.1.1/\r.2.1.2<=bh)
theorem zC3.swap{r:(Int×Int)×(Int×Int)×Bool}{al ah bl bh x y:Int}{p q:Prop}(h:zC3 r al ah bl bh x y p)(e:q->p):zC3 (zHv r) bl bh al ah y x q:=
 ⟨fun z=>by obtain⟨a,b,c⟩:=h.1 (e z);exact⟨a,c,b⟩,fun z=>by obtain⟨a,b,c,d,e,f⟩:=h.2 z;exact⟨b,a,e,f,c,d⟩⟩
theorem zAe{g al ah bl bh x y:Int}(h1:al<=x)(h2:x<=ah)(h3:bl<=y)(h4:y<=bh):zC3 (belV g al ah bl bh) al ah bl bh x y (x+g<=y):=by
 unfold belV zC3;split
 ·exact⟨fun h=>⟨rfl,by show al<=x/\x<=min ah (bh-g);omega,by show max bl (al+g)<=y/\y<=bh;omega⟩,fun _=>by show al<=min ah (bh-g)/\max bl (al+g)<=bh/\al<=al/\min ah (bh-g)<=ah/\bl<=max bl (al+g)/\bh<=bh;omega⟩
 exact⟨fun h=>by omega,fun h=>by cases h⟩
theorem zC9{g al ah bl bh x y:Int}(h1:al<=x)(h2:x<=ah)(h3:bl<=y)(h4:y<=bh)(h5:0<=g)(px: -9223372036854775808<=x)(qx:x<=9223372036854775807)(qy:y<=9223372036854775807):
  zC3 (unsV g al ah bl bh) al ah bl bh x y ((uns x:Int)+g<=uns y):=by
 have ex:=zPr x;have ey:=zPr y;unfold unsV;split
 ·exact⟨fun h=>⟨rfl,⟨h1,h2⟩,h3,h4⟩,fun _=>by show al<=ah/\bl<=bh/\al<=al/\ah<=ah/\bl<=bl/\bh<=bh;omega⟩
 by_cases hx:0<=x
 ·have b:=zAe (g:=g) (al:=max al 0) (ah:=ah) (by omega:max al 0<=x) h2 h3 h4
  refine⟨fun h=>b.1 kO,fun h=>?_⟩;have c:=b.2 h;omega
 refine⟨fun h=>by omega,fun h=>?_⟩;unfold belV at h⊢;split at h
 ·rename_i hc
  rw[if_pos hc];show max al 0<=min ah (bh-g)/\max bl (max al 0+g)<=bh/\al<=max al 0/\min ah (bh-g)<=ah/\bl<=max bl (max al 0+g)/\bh<=bh;omega
 cases h
theorem q1o{c al ah bl bh x y:Int}(hc:15<=c/\c<=24)(pal: -9223372036854775808<=al)(qah:ah<=9223372036854775807)(pbl: -9223372036854775808<=bl)(qbh:bh<=9223372036854775807)
  (h1:al<=x)(h2:x<=ah)(h3:bl<=y)(h4:y<=bh):zC3 (narV c al ah bl bh) al ah bl bh x y (isV c x y=true):=by
 have e:c=15\/c=16\/c=17\/c=18\/c=19\/c=20\/c=21\/c=22\/c=23\/c=24:=kO;rcases e with rfl|rfl|rfl|rfl|rfl|rfl|rfl|rfl|rfl|rfl
 ·rw[zX6,zQl,decide_eq_true_eq]
  unfold z6a zC3;split
  ·exact⟨fun h=>⟨rfl,by show max al bl<=x/\x<=min ah bh;omega,by show max al bl<=y/\y<=min ah bh;omega⟩,fun _=>by show max al bl<=min ah bh/\max al bl<=min ah bh/\al<=max al bl/\min ah bh<=ah/\bl<=max al bl/\min ah bh<=bh;omega⟩
  ·exact⟨fun h=>by omega,fun h=>by cases h⟩
 ·rw[zX5,zQk,Bool.not_eq_true',decide_eq_false_iff_not]
  unfold apV;split
  ·exact⟨fun h=>by omega,fun h=>by cases h⟩
  ·have cut: ∀{al ah ol oh x y:Int},al<=x->x<=ah->ol<=y->y<=oh->(¬x=y->(cutV al ah ol oh).1<=x/\x<=(cutV al ah ol oh).2)/\(cutV al ah ol oh).1<=(cutV al ah ol oh).2/\al<=(cutV al ah ol oh).1/\(cutV al ah ol oh).2<=ah:=by
    intro al ah ol oh x y a1 a2 a3 a4;unfold cutV;split
    ·exact⟨fun _=>⟨a1,a2⟩,by show al<=ah/\al<=al/\ah<=ah;omega⟩
    ·split
     ·exact⟨fun _=>by show al+1<=x/\x<=ah;omega,by show al+1<=ah/\al<=al+1/\ah<=ah;omega⟩
     ·split
      ·exact⟨fun _=>by show al<=x/\x<=ah-1;omega,by show al<=ah-1/\al<=al/\ah-1<=ah;omega⟩
      ·exact⟨fun _=>⟨a1,a2⟩,by show al<=ah/\al<=al/\ah<=ah;omega⟩
   have k1:=cut h1 h2 h3 h4;have k2:=cut h3 h4 h1 h2;exact⟨fun h=>⟨rfl,k1.1 h,k2.1 (fun z=>h z.symm)⟩,fun _=>⟨k1.2.1,k2.2.1,k1.2.2.1,k1.2.2.2,k2.2.2.1,k2.2.2.2⟩⟩
 ·rw[zX4,zQj,decide_eq_true_eq]
  exact(zC9 (g:=1) h3 h4 h1 h2 kO kO kO kO).swap (fun h=>by omega)
 ·rw[zX3,zQi,decide_eq_true_eq]
  exact(zC9 (g:=0) h3 h4 h1 h2 kO kO kO kO).swap (fun h=>by omega)
 ·rw[zX2,zL8,decide_eq_true_eq]
  have k:=zC9 (g:=1) h1 h2 h3 h4 kO kO kO kO;exact⟨fun h=>k.1 kO,k.2⟩
 ·rw[zX1,zL7,decide_eq_true_eq]
  have k:=zC9 (g:=0) h1 h2 h3 h4 kO kO kO kO;exact⟨fun h=>k.1 kO,k.2⟩
 ·rw[zX0,zQh,decide_eq_true_eq]
  exact(zAe (g:=1) h3 h4 h1 h2).swap (fun h=>by omega)
 ·rw[zWz,zQg,decide_eq_true_eq]
  exact(zAe (g:=0) h3 h4 h1 h2).swap (fun h=>by omega)
 ·rw[zWy,zL6,decide_eq_true_eq]
  have k:=zAe (g:=1) h1 h2 h3 h4;exact⟨fun h=>k.1 kO,k.2⟩
 rw[zWx,zL5,decide_eq_true_eq];have k:=zAe (g:=0) h1 h2 h3 h4;exact⟨fun h=>k.1 kO,k.2⟩
def Way.narrow(y:Way)(c:Int)(d s:Nat)(r:Bool)(n:Int):Bool×Way:=
 if(narV c (y.reg d).l (y.reg d).h (y.second s r n).l (y.second s r n).h).2.2=false then(false,y)
 else if r=true/\s=d then(true,y)
 else if r=true then(true,(y.putReg d (z1n (narV c (y.reg d).l (y.reg d).h (y.second s r n).l (y.second s r n).h).1.1 (narV c (y.reg d).l (y.reg d).h (y.second s r n).l (y.second s r n).h).1.2)).putReg s (z1n (narV c (y.reg d).l (y.reg d).h (y.second s r n).l (y.second s r n).h).2.1.1 (narV c (y.reg d).l (y.reg d).h (y.second s r n).l (y.second s r n).h).2.1.2))
 else(true,y.putReg d (z1n (narV c (y.reg d).l (y.reg d).h (y.second s r n).l (y.second s r n).h).1.1 (narV c (y.reg d).l (y.reg d).h (y.second s r n).l (y.second s r n).h).1.2))
def Way.askNumbers(y:Way)(c:Int)(d s:Nat)(r:Bool)(o n:Int):List (Int×Way):=
 (if(y.narrow (oppV c) d s r n).1=true then [(0,(y.narrow (oppV c) d s r n).2)]else [])++(if(y.narrow c d s r n).1=true then [(o,(y.narrow c d s r n).2)]else [])
def Way.askPlace(y:Way)(c:Int)(d:Nat)(o:Int):List (Int×Way):=
 if(y.reg d).k≠5 then [(if c=16 then o else 0,y)]else [(if c=16 then 0 else o,y.putReg d (z1n 0 0)),(if c=16 then o else 0,y.putReg d ⟨4,0,0⟩)]
def Way.ask(y:Way)(c:Int)(d s:Nat)(r:Bool)(o n:Int):List (Int×Way)×Int:=
 if(y.reg d).k=0\/(y.second s r n).k=0 then([],8)
 else if(y.reg d).k=1/\(y.second s r n).k=1 then(y.askNumbers c d s r o n,0)
 else if(c≠15/\c≠16)\/r=true\/n≠0 then([],1)
 else(y.askPlace c d o,0)
def Way.look(y:Way)(c:Int)(d s:Nat)(r:Bool)(o n:Int):List (Int×Way)×Int:=
 if 15<=c/\c<=24 then y.ask c d s r o n
 else if c=14 then([(o,y)],0)
 else if c=28 then([],z16 (y.reg 0))
 else if c=25 then(if(y.load d s o).1=0 then([(0,(y.load d s o).2)],0)else([],(y.load d s o).1))
 else if c=26 then(if(y.store (y.reg d) (y.second s r n) o).1=0 then([(0,(y.store (y.reg d) (y.second s r n) o).2)],0)else([],(y.store (y.reg d) (y.second s r n) o).1))
 else if c=27 then(if(y.call n).1=0 then([(0,(y.call n).2)],0)else([],(y.call n).1))
 else(if(y.change c d s r n).1=0 then([(0,(y.change c d s r n).2)],0)else([],(y.change c d s r n).1))
def goF(C D S:Nat->Int)(R:Nat->Bool)(O N:Nat->Int):Nat->List (Nat×Way)->List Kno->(Int×Nat)⊕List Kno
 |_,[],ends=> .inr ends
 |0,x::_,_=> .inl (4,x.1)
 |f+1,x::st,ends=>
  if(x.2.look (C x.1) (D x.1).toNat (S x.1).toNat (R x.1) (O x.1) (N x.1)).2≠0 then .inl ((x.2.look (C x.1) (D x.1).toNat (S x.1).toNat (R x.1) (O x.1) (N x.1)).2,x.1)
  else goF C D S R O N f ((x.2.look (C x.1) (D x.1).toNat (S x.1).toNat (R x.1) (O x.1) (N x.1)).1.map (fun z=>(x.1+1+z.1.toNat,z.2))++st) (if C x.1=28 then ends++[x.2.reg 0]else ends)
theorem q3i{y:Way}{c:Int}{d s:Nat}{r:Bool}{o n:Int}: ∀z,z∈(y.ask c d s r o n).1->z.1=0\/z.1=o:=by
 intro z hz;unfold Way.ask at hz;split at hz
 ·exact absurd hz kS
 split at hz
 ·unfold Way.askNumbers at hz
  rcases List.mem_append.mp hz with hz|hz
  ·split at hz
   ·rw[List.mem_singleton.mp hz];exact Or.inl rfl
   ·exact absurd hz kS
  ·split at hz
   ·rw[List.mem_singleton.mp hz];exact Or.inr rfl
   ·exact absurd hz kS
 split at hz
 ·exact absurd hz kS
 unfold Way.askPlace at hz;split at hz
 ·rw[List.mem_singleton.mp hz]
  by_cases e:c=16
  ·exact Or.inr (if_pos e)
  ·exact Or.inl (if_neg e)
 rcases List.mem_cons.mp hz with hz|hz
 ·rw[hz]
  by_cases e:c=16
  ·exact Or.inl (if_pos e)
  ·exact Or.inr (if_neg e)
 rw[List.mem_singleton.mp hz]
 by_cases e:c=16
 ·exact Or.inr (if_pos e)
 exact Or.inl (if_neg e)
theorem zKs{y:Way}{c:Int}{d s:Nat}{r:Bool}{o n:Int}: ∀z,z∈(y.look c d s r o n).1->c≠28/\(z.1=0\/(z.1=o/\(c=14\/(15<=c/\c<=24)))):=by
 intro z hz;unfold Way.look at hz
 by_cases c1:15<=c/\c<=24
 ·rw[if_pos c1]at hz
  exact⟨by omega,(q3i z hz).elim Or.inl fun e=>Or.inr ⟨e,Or.inr c1⟩⟩
 rw[if_neg c1]at hz
 by_cases c2:c=14
 ·rw[if_pos c2]at hz
  rw[List.mem_singleton.mp hz];exact⟨by omega,Or.inr ⟨rfl,Or.inl c2⟩⟩
 rw[if_neg c2]at hz
 by_cases c3:c=28
 ·rw[if_pos c3]at hz;exact absurd hz kS
 rw[if_neg c3]at hz;refine⟨c3,Or.inl ?_⟩;split at hz
 ·split at hz
  ·rw[List.mem_singleton.mp hz]
  ·exact absurd hz kS
 split at hz
 ·split at hz
  ·rw[List.mem_singleton.mp hz]
  ·exact absurd hz kS
 split at hz
 ·split at hz
  ·rw[List.mem_singleton.mp hz]
  ·exact absurd hz kS
 split at hz
 ·rw[List.mem_singleton.mp hz]
 exact absurd hz kS
end
end Go.Proofs.YtkdflpplamebkaaGreatDoor
