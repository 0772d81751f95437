/-
A part of the proof of DeskPieces; its card says what is proved.
-/
import Derived.Test.YtkdflpplamebkaaGreatDoorJp17
set_option maxHeartbeats 40000000
open Go.Value renaming int → A
open Go.IntKind renaming i64 → B
set_option maxRecDepth 1000000
set_option linter.defProp false
set_option linter.unusedVariables false
set_option linter.unusedSimpArgs false
open Go.Ending renaming returned → rT
open Go.Value renaming pointer → pT
open Go.Proofs.Tryz renaming prog → tP
namespace Go.Proofs.YtkdflpplamebkaaGreatDoor
open Go.ChangeShapes Go.WideShapes Go.ChangeAt Go.RowKit
section
attribute [local simp] z05
theorem q1q(al ah bl bh:Int)(h:max al bl<=min ah bh)(w:World):zR 222 #[.agg #[A B al,A B ah],.agg #[A B bl,A B bh]] w (.tuple #[.agg #[A B (max al bl),A B (min ah bh)],.bool true]):=by
 have _h:decide (min ah bh<max al bl)=false:=kZ;go_enter Tryz.func222,Tryz.ntmps222;go_wp2_with fail
 all_goals exact bodyPost_ret (v:= .tuple #[.agg #[A B (max al bl),A B (min ah bh)],.bool true]) (by simp[results,Tryz.results222,go_sem]) rfl ⟨rfl,kB⟩
theorem q5h(al ah bl bh:Int)(h:min ah bh<max al bl)(w:World):zR 222 #[.agg #[A B al,A B ah],.agg #[A B bl,A B bh]] w (.tuple #[.agg #[A B 0,A B 0],.bool false]):=by
 have _h:decide (min ah bh<max al bl)=true:=kZ;go_enter Tryz.func222,Tryz.ntmps222;go_wp2_with fail
 all_goals exact bodyPost_ret (v:= .tuple #[.agg #[A B 0,A B 0],.bool false]) (by simp[results,Tryz.results222,go_sem]) rfl ⟨rfl,kB⟩
def oppV(c:Int):Int:=if c=15 then 16 else if c=16 then 15 else if c=17 then 20 else if c=18 then 19 else if c=19 then 18 else if c=20 then 17 else if c=21 then 24 else if c=22 then 23 else if c=23 then 22 else if c=24 then 21 else 0
theorem opp_15(w:World):zS 207 #[A B 15] w (A B 16):=by
 go_enter Tryz.func207,Tryz.ntmps207;go_wp2;go_ret;exact⟨rfl,rfl⟩
theorem opp_16(w:World):zS 207 #[A B 16] w (A B 15):=by
 go_enter Tryz.func207,Tryz.ntmps207;go_wp2;go_ret;exact⟨rfl,rfl⟩
theorem opp_17(w:World):zS 207 #[A B 17] w (A B 20):=by
 go_enter Tryz.func207,Tryz.ntmps207;go_wp2;go_ret;exact⟨rfl,rfl⟩
theorem opp_18(w:World):zS 207 #[A B 18] w (A B 19):=by
 go_enter Tryz.func207,Tryz.ntmps207;go_wp2;go_ret;exact⟨rfl,rfl⟩
theorem opp_19(w:World):zS 207 #[A B 19] w (A B 18):=by
 go_enter Tryz.func207,Tryz.ntmps207;go_wp2;go_ret;exact⟨rfl,rfl⟩
theorem opp_20(w:World):zS 207 #[A B 20] w (A B 17):=by
 go_enter Tryz.func207,Tryz.ntmps207;go_wp2;go_ret;exact⟨rfl,rfl⟩
theorem opp_21(w:World):zS 207 #[A B 21] w (A B 24):=by
 go_enter Tryz.func207,Tryz.ntmps207;go_wp2;go_ret;exact⟨rfl,rfl⟩
theorem opp_22(w:World):zS 207 #[A B 22] w (A B 23):=by
 go_enter Tryz.func207,Tryz.ntmps207;go_wp2;go_ret;exact⟨rfl,rfl⟩
theorem opp_23(w:World):zS 207 #[A B 23] w (A B 22):=by
 go_enter Tryz.func207,Tryz.ntmps207;go_wp2;go_ret;exact⟨rfl,rfl⟩
theorem opp_24(w:World):zS 207 #[A B 24] w (A B 21):=by
 go_enter Tryz.func207,Tryz.ntmps207;go_wp2;go_ret;exact⟨rfl,rfl⟩
theorem zVg(w:World):zS 225 #[A B 17] w (A B 19):=by
 go_enter Tryz.func225,Tryz.ntmps225;go_wp2;go_ret;exact⟨rfl,rfl⟩
theorem zVf(w:World):zS 225 #[A B 18] w (A B 20):=by
 go_enter Tryz.func225,Tryz.ntmps225;go_wp2;go_ret;exact⟨rfl,rfl⟩
theorem zVe(w:World):zS 225 #[A B 21] w (A B 23):=by
 go_enter Tryz.func225,Tryz.ntmps225;go_wp2;go_ret;exact⟨rfl,rfl⟩
theorem zVd(w:World):zS 225 #[A B 22] w (A B 24):=by
 go_enter Tryz.func225,Tryz.ntmps225;go_wp2;go_ret;exact⟨rfl,rfl⟩
theorem zH1(al ah bl bh:Int)(hb:bl<0)(w:World):(zR 224 #[A B 19,.agg #[A B al,A B ah],.agg #[A B bl,A B bh]] w (.tuple #[.agg #[A B al,A B ah],.agg #[A B bl,A B bh],.bool true]))/\(zR 224 #[A B 20,.agg #[A B al,A B ah],.agg #[A B bl,A B bh]] w (.tuple #[.agg #[A B al,A B ah],.agg #[A B bl,A B bh],.bool true])):=by
 refine⟨?_,?_⟩
 all_goals
  go_enter Tryz.func224,Tryz.ntmps224;go_wp2_with fail;go_region
  all_goals go_wp2
  all_goals exact bodyPost_ret (v:= .tuple #[.agg #[A B al,A B ah],.agg #[A B bl,A B bh],.bool true]) (by simp[results,Tryz.results224,go_sem]) rfl ⟨rfl,kB⟩
def zZl:=fun al ah bl bh hb w=>(@zH1 al ah bl bh hb w).1
def zZh:=fun al ah bl bh hb w=>(@zH1 al ah bl bh hb w).2
theorem zB9(al ah bl bh:Int)(hb:0<=bl):(∀(h:max al 0<=ah)(hi:isV 19 (max al 0) bh=false)(w:World),zR 224 #[A B 19,.agg #[A B al,A B ah],.agg #[A B bl,A B bh]] w (.tuple #[.agg #[A B 0,A B 0],.agg #[A B 0,A B 0],.bool false]))/\(∀(h:max al 0<=ah)(hi:isV 20 (max al 0) bh=false)(w:World),zR 224 #[A B 20,.agg #[A B al,A B ah],.agg #[A B bl,A B bh]] w (.tuple #[.agg #[A B 0,A B 0],.agg #[A B 0,A B 0],.bool false]))/\(∀(h:ah<max al 0)(w:World),zR 224 #[A B 20,.agg #[A B al,A B ah],.agg #[A B bl,A B bh]] w (.tuple #[.agg #[A B 0,A B 0],.agg #[A B 0,A B 0],.bool false])):=by
 refine⟨?_,?_,?_⟩;intro h hi w;rotate_left;intro h hi w;rotate_left;intro h w;rotate_left
 all_goals
  have _hb:decide (bl<0)=false:=kZ
 have _h:decide (ah<max al 0)=false:=kZ;rotate_left;have _h:decide (ah<max al 0)=false:=kZ;rotate_left;have _h:decide (ah<max al 0)=true:=kZ;rotate_left
 all_goals
  go_enter Tryz.func224,Tryz.ntmps224;go_wp2_with(first|(go_at_call 187;refine(zL4 _ _ _ _).mono ?_;rintro e w' ⟨rfl,rfl⟩))
  all_goals exact bodyPost_ret (v:= .tuple #[.agg #[A B 0,A B 0],.agg #[A B 0,A B 0],.bool false]) (by simp[results,Tryz.results224,go_sem]) rfl ⟨rfl,kB⟩
def zZm:=fun al ah bl bh hb=>(@zB9 al ah bl bh hb).1
def zZi:=fun al ah bl bh hb=>(@zB9 al ah bl bh hb).2.1
def zZj:=fun al ah bl bh hb=>(@zB9 al ah bl bh hb).2.2
theorem z6q(al ah bl bh:Int):(∀(hb:0<=bl)(h:ah<max al 0)(w:World),zR 224 #[A B 19,.agg #[A B al,A B ah],.agg #[A B bl,A B bh]] w (.tuple #[.agg #[A B 0,A B 0],.agg #[A B 0,A B 0],.bool false]))/\(∀(h:al<=ah)(hi:isV 24 (al) bh=false)(w:World),zR 224 #[A B 24,.agg #[A B al,A B ah],.agg #[A B bl,A B bh]] w (.tuple #[.agg #[A B 0,A B 0],.agg #[A B 0,A B 0],.bool false]))/\(∀(h:ah<al)(w:World),zR 224 #[A B 24,.agg #[A B al,A B ah],.agg #[A B bl,A B bh]] w (.tuple #[.agg #[A B 0,A B 0],.agg #[A B 0,A B 0],.bool false]))/\(∀(h:al<=ah)(hi:isV 23 (al) bh=false)(w:World),zR 224 #[A B 23,.agg #[A B al,A B ah],.agg #[A B bl,A B bh]] w (.tuple #[.agg #[A B 0,A B 0],.agg #[A B 0,A B 0],.bool false]))/\(∀(h:ah<al)(w:World),zR 224 #[A B 23,.agg #[A B al,A B ah],.agg #[A B bl,A B bh]] w (.tuple #[.agg #[A B 0,A B 0],.agg #[A B 0,A B 0],.bool false])):=by
 refine⟨?_,?_,?_,?_,?_⟩;intro hb h w;have _hb:decide (bl<0)=false:=kZ;have _h:decide (ah<max al 0)=true:=kZ;rotate_left;intro h hi w;have _h:decide (ah<al)=false:=kZ;rotate_left;intro h w;have _h:decide (ah<al)=true:=kZ;rotate_left;intro h hi w;have _h:decide (ah<al)=false:=kZ;rotate_left;intro h w;have _h:decide (ah<al)=true:=kZ;rotate_left
 all_goals
  go_enter Tryz.func224,Tryz.ntmps224;go_wp2_with(first|(go_at_call 187;refine(zL4 _ _ _ _).mono ?_;rintro e w' ⟨rfl,rfl⟩))
  all_goals exact bodyPost_ret (v:= .tuple #[.agg #[A B 0,A B 0],.agg #[A B 0,A B 0],.bool false]) (by simp[results,Tryz.results224,go_sem]) rfl ⟨rfl,kB⟩
def zZn:=fun al ah bl bh=>(@z6q al ah bl bh).1
def zZb:=fun al ah bl bh=>(@z6q al ah bl bh).2.1
def zZc:=fun al ah bl bh=>(@z6q al ah bl bh).2.2.1
def zZe:=fun al ah bl bh=>(@z6q al ah bl bh).2.2.2.1
def zZf:=fun al ah bl bh=>(@z6q al ah bl bh).2.2.2.2
theorem z8l(al ah bl bh:Int):(∀(hb:0<=bl)(h:max al 0<=ah)(hi:isV 19 (max al 0) bh=true)(p1: -9223372036854775808<=max al 0)(p2:max al 0+1<=9223372036854775807)(p3: -9223372036854775808<=bh-1)(p4:bh<=9223372036854775807)(w:World),zR 224 #[A B 19,.agg #[A B al,A B ah],.agg #[A B bl,A B bh]] w (.tuple #[.agg #[A B (max al 0),A B (min ah (bh-1))],.agg #[A B (max bl (max al 0+1)),A B bh],.bool true]))/\(∀(h:al<=ah)(hi:isV 24 (al) bh=true)(p1: -9223372036854775808<=al)(p2:al+0<=9223372036854775807)(p3: -9223372036854775808<=bh-0)(p4:bh<=9223372036854775807)(w:World),zR 224 #[A B 24,.agg #[A B al,A B ah],.agg #[A B bl,A B bh]] w (.tuple #[.agg #[A B al,A B (min ah (bh))],.agg #[A B (max bl (al)),A B bh],.bool true]))/\(∀(h:al<=ah)(hi:isV 23 (al) bh=true)(p1: -9223372036854775808<=al)(p2:al+1<=9223372036854775807)(p3: -9223372036854775808<=bh-1)(p4:bh<=9223372036854775807)(w:World),zR 224 #[A B 23,.agg #[A B al,A B ah],.agg #[A B bl,A B bh]] w (.tuple #[.agg #[A B al,A B (min ah (bh-1))],.agg #[A B (max bl (al+1)),A B bh],.bool true]))/\(∀(hb:0<=bl)(h:max al 0<=ah)(hi:isV 20 (max al 0) bh=true)(p1: -9223372036854775808<=max al 0)(p2:max al 0+0<=9223372036854775807)(p3: -9223372036854775808<=bh-0)(p4:bh<=9223372036854775807)(w:World),zR 224 #[A B 20,.agg #[A B al,A B ah],.agg #[A B bl,A B bh]] w (.tuple #[.agg #[A B (max al 0),A B (min ah (bh))],.agg #[A B (max bl (max al 0)),A B bh],.bool true])):=by
 refine⟨?_,?_,?_,?_⟩;intro hb h hi p1 p2 p3 p4 w;have _hb:decide (bl<0)=false:=kZ;have _h:decide (ah<max al 0)=false:=kZ;rotate_left;intro h hi p1 p2 p3 p4 w;have _h:decide (ah<al)=false:=kZ;rotate_left;intro h hi p1 p2 p3 p4 w;have _h:decide (ah<al)=false:=kZ;rotate_left;intro hb h hi p1 p2 p3 p4 w;have _hb:decide (bl<0)=false:=kZ;have _h:decide (ah<max al 0)=false:=kZ;rotate_left
 all_goals
  go_enter Tryz.func224,Tryz.ntmps224;go_wp2_with(first|(go_at_call 187;refine(zL4 _ _ _ _).mono ?_;rintro e w' ⟨rfl,rfl⟩));go_region
  all_goals go_wp2
  all_goals exact bodyPost_ret (by simp[results,Tryz.results224,go_sem]) rfl ⟨rfl,kB⟩
def zZk:=fun al ah bl bh=>(@z8l al ah bl bh).1
def zZa:=fun al ah bl bh=>(@z8l al ah bl bh).2.1
def zZd:=fun al ah bl bh=>(@z8l al ah bl bh).2.2.1
def zZg:=fun al ah bl bh=>(@z8l al ah bl bh).2.2.2
def eqB(l h e:Int):Bool:=decide (l=e)&&decide (h=e)
theorem zIz(l h e:Int):eqB l h e=true↔l=e/\h=e:=by simp[eqB]
theorem zM0(l h e:Int):eqB l h e=false↔ ¬(l=e/\h=e):=by rw[<-Bool.not_eq_true,zIz]
theorem q6j(e l h:Int)(bk:Nat)(p:l=e)(q:h=e)(w:World)(hbk:bk<w.heap.size)(c0:w.cell? ⟨bk,0,none⟩=some (A B l))(c1:w.cell? ⟨bk,1,none⟩=some (A B h)):Calls tP 227 #[A B e,pT (some ⟨bk,0,none⟩)] w fun r w'=>r= rT (.bool true)/\Below w.heap.size w w':=by
 obtain rfl:e=l:=p.symm;obtain rfl:e=h:=q.symm;go_enter Tryz.func227,Tryz.ntmps227;go_wp2_with(first|(go_at_call 86;refine(z2n _ _).mono ?_;rintro e w' ⟨rfl,rfl⟩));go_region_held3 (fun w'=>w'.cell? ⟨bk,0,none⟩=some (A B e)/\w'.cell? ⟨bk,1,none⟩=some (A B e)) (first|(simp[go_sem];done)|(simp[go_sem, *];done)|go_keep) (first|(go_at_call 86;refine(z2n _ _).mono ?_;rintro e w' ⟨rfl,rfl⟩))
 all_goals go_wp2
 all_goals go_ret
 all_goals exact⟨rfl,kB⟩
theorem q6l(e l h:Int)(bk:Nat)(p: ¬l=e)(w:World)(hbk:bk<w.heap.size)(c0:w.cell? ⟨bk,0,none⟩=some (A B l))(c1:w.cell? ⟨bk,1,none⟩=some (A B h)):Calls tP 227 #[A B e,pT (some ⟨bk,0,none⟩)] w fun r w'=>r= rT (.bool false)/\Below w.heap.size w w':=by
 go_enter Tryz.func227,Tryz.ntmps227;go_wp2_with(first|(go_at_call 86;refine(z2n _ _).mono ?_;rintro e w' ⟨rfl,rfl⟩));go_region_held3 (fun w'=>w'.cell? ⟨bk,0,none⟩=some (A B l)/\w'.cell? ⟨bk,1,none⟩=some (A B h)) (first|(simp[go_sem];done)|(simp[go_sem, *];done)|go_keep) (first|(go_at_call 86;refine(z2n _ _).mono ?_;rintro e w' ⟨rfl,rfl⟩))
 all_goals go_wp2
 all_goals go_ret
 all_goals exact⟨rfl,kB⟩
theorem q6k(e l h:Int)(bk:Nat)(p:l=e)(q: ¬h=e)(w:World)(hbk:bk<w.heap.size)(c0:w.cell? ⟨bk,0,none⟩=some (A B l))(c1:w.cell? ⟨bk,1,none⟩=some (A B h)):Calls tP 227 #[A B e,pT (some ⟨bk,0,none⟩)] w fun r w'=>r= rT (.bool false)/\Below w.heap.size w w':=by
 obtain rfl:e=l:=p.symm;go_enter Tryz.func227,Tryz.ntmps227;go_wp2_with(first|(go_at_call 86;refine(z2n _ _).mono ?_;rintro e w' ⟨rfl,rfl⟩));go_region_held3 (fun w'=>w'.cell? ⟨bk,0,none⟩=some (A B e)/\w'.cell? ⟨bk,1,none⟩=some (A B h)) (first|(simp[go_sem];done)|(simp[go_sem, *];done)|go_keep) (first|(go_at_call 86;refine(z2n _ _).mono ?_;rintro e w' ⟨rfl,rfl⟩))
 all_goals go_wp2
 all_goals go_ret
 all_goals exact⟨rfl,kB⟩
theorem zQy(e l h:Int)(bk:Nat)(w:World)(hbk:bk<w.heap.size)(c0:w.cell? ⟨bk,0,none⟩=some (A B l))(c1:w.cell? ⟨bk,1,none⟩=some (A B h)):Calls tP 227 #[A B e,pT (some ⟨bk,0,none⟩)] w fun r w'=>r= rT (.bool (eqB l h e))/\Below w.heap.size w w':=by
 by_cases p:l=e
 ·by_cases q:h=e
  ·have hb:eqB l h e=true:=(zIz _ _ _).2 ⟨p,q⟩
   rw[hb];exact q6j e l h bk p q w hbk c0 c1
  ·have hb:eqB l h e=false:=(zM0 _ _ _).2 (fun x=>q x.2)
   rw[hb];exact q6k e l h bk p q w hbk c0 c1
 have hb:eqB l h e=false:=(zM0 _ _ _).2 (fun x=>p x.1);rw[hb];exact q6l e l h bk p w hbk c0 c1
def Trio(n:Nat)(al ah bl bh:Int)(w:World):Prop:=
 n+1+1<w.heap.size/\w.cell? ⟨n,0,none⟩=some (A B al)/\w.cell? ⟨n,1,none⟩=some (A B ah)/\w.frozen? ⟨n,0,none⟩=false/\w.frozen? ⟨n,1,none⟩=false
 /\w.cell? ⟨n+1,0,none⟩=some (A B bl)/\w.cell? ⟨n+1,1,none⟩=some (A B bh)/\w.frozen? ⟨n+1,0,none⟩=false/\w.frozen? ⟨n+1,1,none⟩=false
 /\w.cell? ⟨n+1+1,0,none⟩=some (A B 0)/\w.cell? ⟨n+1+1,1,none⟩=some (A B 0)/\w.frozen? ⟨n+1+1,0,none⟩=false/\w.frozen? ⟨n+1+1,1,none⟩=false
theorem Trio.later{n:Nat}{al ah bl bh:Int}{W w1:World}(h:Trio n al ah bl bh W)(hb:Below W.heap.size W w1):Trio n al ah bl bh w1:=by
 obtain⟨t0,a0,a1,af0,af1,b0,b1,bf0,bf1,r0,r1,rf0,rf1⟩:=h;have hs:=hb.size;have l0:n<W.heap.size:=kO;have l1:n+1<W.heap.size:=kO
 exact⟨by omega,(hb.cell (p:=⟨n,0,none⟩) l0).trans a0,(hb.cell (p:=⟨n,1,none⟩) l0).trans a1,(hb.frozen (p:=⟨n,0,none⟩) l0).trans af0,(hb.frozen (p:=⟨n,1,none⟩) l0).trans af1,
  (hb.cell (p:=⟨n+1,0,none⟩) l1).trans b0,(hb.cell (p:=⟨n+1,1,none⟩) l1).trans b1,(hb.frozen (p:=⟨n+1,0,none⟩) l1).trans bf0,(hb.frozen (p:=⟨n+1,1,none⟩) l1).trans bf1,
  (hb.cell (p:=⟨n+1+1,0,none⟩) t0).trans r0,(hb.cell (p:=⟨n+1+1,1,none⟩) t0).trans r1,(hb.frozen (p:=⟨n+1+1,0,none⟩) t0).trans rf0,(hb.frozen (p:=⟨n+1+1,1,none⟩) t0).trans rf1⟩
theorem wo_one(al bl bh:Int)(w:World):zR 226 #[.agg #[A B al,A B al],.agg #[A B bl,A B bh]] w (.agg #[A B al,A B al]):=by
 go_enter Tryz.func226,Tryz.ntmps226;go_wp2_with fail;go_region_held3 (fun w'=>w'.cell? ⟨w.heap.size,0,none⟩=some (A B al)/\w'.cell? ⟨w.heap.size,1,none⟩=some (A B al)) (first|(simp[go_sem];done)|(simp[go_sem, *];done)|go_keep) (first|(go_at_call 86;refine(z2n _ _).mono ?_;rintro e w' ⟨rfl,rfl⟩)|(go_at_call 227;refine(zQy _ bl bh _ _ ?_ ?_ ?_).mono ?_;(focus first|(simp;done)|(simp;omega)|omega);(focus first|(simp[go_sem];done)|(simp[go_sem, *];done));(focus first|(simp[go_sem];done)|(simp[go_sem, *];done));rintro e w1 ⟨rfl,hb1⟩;have hX1:Trio w.heap.size al ah bl bh w1:=Trio.later (by first|exact hX1|(refine⟨?_,?_,?_,?_,?_,?_,?_,?_,?_,?_,?_,?_,?_⟩<;>simp[go_sem])) hb1;have hbw1:Below w.heap.size w w1:=kT hb1;have hY:=hX1;obtain⟨t0,a0,a1,af0,af1,b0,b1,bf0,bf1,r0,r1,rf0,rf1⟩:=hY))
 all_goals go_wp2_with(first|(go_at_call 86;refine(z2n _ _).mono ?_;rintro e w' ⟨rfl,rfl⟩)|(go_at_call 227;refine(zQy _ bl bh _ _ ?_ ?_ ?_).mono ?_;(focus first|(simp;done)|(simp;omega)|omega);(focus first|(simp[go_sem];done)|(simp[go_sem, *];done));(focus first|(simp[go_sem];done)|(simp[go_sem, *];done));rintro e w1 ⟨rfl,hb1⟩;have hX1:Trio w.heap.size al ah bl bh w1:=Trio.later (by first|exact hX1|(refine⟨?_,?_,?_,?_,?_,?_,?_,?_,?_,?_,?_,?_,?_⟩<;>simp[go_sem])) hb1;have hbw1:Below w.heap.size w w1:=kT hb1;have hY:=hX1;obtain⟨t0,a0,a1,af0,af1,b0,b1,bf0,bf1,r0,r1,rf0,rf1⟩:=hY))
 all_goals exact bodyPost_ret (v:= .agg #[A B al,A B al]) (by simp[results,Tryz.results226,go_sem]) rfl ⟨rfl,kB⟩
theorem zBa(al ah bl bh:Int)(hne: ¬ah=al):(∀(hlt:al<ah)(p1: -9223372036854775808<=al)(p2:ah<=9223372036854775807)(hp:eqB bl bh al=true)(w:World),zR 226 #[.agg #[A B al,A B ah],.agg #[A B bl,A B bh]] w (.agg #[A B (al+1),A B ah]))/\(∀(hp:eqB bl bh al=false)(hq:eqB bl bh ah=false)(w:World),zR 226 #[.agg #[A B al,A B ah],.agg #[A B bl,A B bh]] w (.agg #[A B al,A B ah]))/\(∀(hlt:al<ah)(p1: -9223372036854775808<=al)(p2:ah<=9223372036854775807)(hp:eqB bl bh al=false)(hq:eqB bl bh ah=true)(w:World),zR 226 #[.agg #[A B al,A B ah],.agg #[A B bl,A B bh]] w (.agg #[A B al,A B (ah-1)])):=by
 refine⟨?_,?_,?_⟩;intro hlt p1 p2 hp w;rotate_left;intro hp hq w;rotate_left;intro hlt p1 p2 hp hq w;rotate_left
 all_goals
  go_enter Tryz.func226,Tryz.ntmps226;go_wp2_with fail;go_region_held3 (fun w'=>w'.cell? ⟨w.heap.size,0,none⟩=some (A B al)/\w'.cell? ⟨w.heap.size,1,none⟩=some (A B ah)) (first|(simp[go_sem];done)|(simp[go_sem, *];done)|go_keep) (first|(go_at_call 86;refine(z2n _ _).mono ?_;rintro e w' ⟨rfl,rfl⟩)|(go_at_call 227;refine(zQy _ bl bh _ _ ?_ ?_ ?_).mono ?_;(focus first|(simp;done)|(simp;omega)|omega);(focus first|(simp[go_sem];done)|(simp[go_sem, *];done));(focus first|(simp[go_sem];done)|(simp[go_sem, *];done));rintro e w1 ⟨rfl,hb1⟩;have hX1:Trio w.heap.size al ah bl bh w1:=Trio.later (by first|exact hX1|(refine⟨?_,?_,?_,?_,?_,?_,?_,?_,?_,?_,?_,?_,?_⟩<;>simp[go_sem])) hb1;have hbw1:Below w.heap.size w w1:=kT hb1;have hY:=hX1;obtain⟨t0,a0,a1,af0,af1,b0,b1,bf0,bf1,r0,r1,rf0,rf1⟩:=hY))
  all_goals go_wp2_with(first|(go_at_call 86;refine(z2n _ _).mono ?_;rintro e w' ⟨rfl,rfl⟩)|(go_at_call 227;refine(zQy _ bl bh _ _ ?_ ?_ ?_).mono ?_;(focus first|(simp;done)|(simp;omega)|omega);(focus first|(simp[go_sem];done)|(simp[go_sem, *];done));(focus first|(simp[go_sem];done)|(simp[go_sem, *];done));rintro e w1 ⟨rfl,hb1⟩;have hX1:Trio w.heap.size al ah bl bh w1:=Trio.later (by first|exact hX1|(refine⟨?_,?_,?_,?_,?_,?_,?_,?_,?_,?_,?_,?_,?_⟩<;>simp[go_sem])) hb1;have hbw1:Below w.heap.size w w1:=kT hb1;have hY:=hX1;obtain⟨t0,a0,a1,af0,af1,b0,b1,bf0,bf1,r0,r1,rf0,rf1⟩:=hY))
  all_goals exact bodyPost_ret (by simp[results,Tryz.results226,go_sem,r0,r1]) rfl ⟨rfl,kB⟩
def wo_low:=fun al ah bl bh hne=>(@zBa al ah bl bh hne).1
def q4l:=fun al ah bl bh hne=>(@zBa al ah bl bh hne).2.1
def q4m:=fun al ah bl bh hne=>(@zBa al ah bl bh hne).2.2
end
section
attribute [local simp] z05
def cutV(al ah ol oh:Int):Int×Int:=
 if al=ah then(al,ah)else if ol=al/\oh=al then(al+1,ah)else if ol=ah/\oh=ah then(al,ah-1)else(al,ah)
theorem zAl(al ah bl bh:Int)(pal: -9223372036854775808<=al)(qah:ah<=9223372036854775807)(oa:al<=ah)(w:World):zR 226 #[.agg #[A B al,A B ah],.agg #[A B bl,A B bh]] w (.agg #[A B ((cutV al ah bl bh).1),A B ((cutV al ah bl bh).2)]):=by
 unfold cutV
 by_cases h0:al=ah
 ·rw[if_pos h0]
  subst h0;exact wo_one al bl bh w
 rw[if_neg h0]
 by_cases h1:bl=al/\bh=al
 ·rw[if_pos h1]
  exact wo_low al ah bl bh (fun h=>h0 h.symm) kO pal qah ((zIz _ _ _).2 h1) w
 rw[if_neg h1]
 by_cases h2:bl=ah/\bh=ah
 ·rw[if_pos h2]
  exact q4m al ah bl bh (fun h=>h0 h.symm) kO pal qah ((zM0 _ _ _).2 h1) ((zIz _ _ _).2 h2) w
 rw[if_neg h2];exact q4l al ah bl bh (fun h=>h0 h.symm) ((zM0 _ _ _).2 h1) ((zM0 _ _ _).2 h2) w
def Quad(n:Nat)(al ah bl bh:Int)(w:World):Prop:=
 n+1+1+1<w.heap.size/\w.cell? ⟨n,0,none⟩=some (A B al)/\w.cell? ⟨n,1,none⟩=some (A B ah)/\w.frozen? ⟨n,0,none⟩=false/\w.frozen? ⟨n,1,none⟩=false/\w.cell? ⟨n+1,0,none⟩=some (A B bl)/\w.cell? ⟨n+1,1,none⟩=some (A B bh)/\w.frozen? ⟨n+1,0,none⟩=false/\w.frozen? ⟨n+1,1,none⟩=false/\w.cell? ⟨n+1+1,0,none⟩=some (A B 0)/\w.cell? ⟨n+1+1,1,none⟩=some (A B 0)/\w.frozen? ⟨n+1+1,0,none⟩=false/\w.frozen? ⟨n+1+1,1,none⟩=false/\w.cell? ⟨n+1+1+1,0,none⟩=some (A B 0)/\w.cell? ⟨n+1+1+1,1,none⟩=some (A B 0)/\w.frozen? ⟨n+1+1+1,0,none⟩=false/\w.frozen? ⟨n+1+1+1,1,none⟩=false
theorem Quad.later{n:Nat}{al ah bl bh:Int}{W w1:World}(h:Quad n al ah bl bh W)(hb:Below W.heap.size W w1):Quad n al ah bl bh w1:=by
 obtain⟨t0,a0,a1,af0,af1,b0,b1,bf0,bf1,r0,r1,rf0,rf1,s0,s1,sf0,sf1⟩:=h;have hs:=hb.size;have l0:n<W.heap.size:=kO;have l1:n+1<W.heap.size:=kO;have l2:n+1+1<W.heap.size:=kO;have l3:n+1+1+1<W.heap.size:=kO;exact⟨by omega,(hb.cell (p:=⟨n,0,none⟩) l0).trans a0,(hb.cell (p:=⟨n,1,none⟩) l0).trans a1,(hb.frozen (p:=⟨n,0,none⟩) l0).trans af0,(hb.frozen (p:=⟨n,1,none⟩) l0).trans af1,(hb.cell (p:=⟨n+1,0,none⟩) l1).trans b0,(hb.cell (p:=⟨n+1,1,none⟩) l1).trans b1,(hb.frozen (p:=⟨n+1,0,none⟩) l1).trans bf0,(hb.frozen (p:=⟨n+1,1,none⟩) l1).trans bf1,(hb.cell (p:=⟨n+1+1,0,none⟩) l2).trans r0,(hb.cell (p:=⟨n+1+1,1,none⟩) l2).trans r1,(hb.frozen (p:=⟨n+1+1,0,none⟩) l2).trans rf0,(hb.frozen (p:=⟨n+1+1,1,none⟩) l2).trans rf1,(hb.cell (p:=⟨n+1+1+1,0,none⟩) l3).trans s0,(hb.cell (p:=⟨n+1+1+1,1,none⟩) l3).trans s1,(hb.frozen (p:=⟨n+1+1+1,0,none⟩) l3).trans sf0,(hb.frozen (p:=⟨n+1+1+1,1,none⟩) l3).trans sf1⟩
theorem q3o(al:Int)(w:World):zR 223 #[.agg #[A B al,A B al],.agg #[A B al,A B al]] w (.tuple #[.agg #[A B 0,A B 0],.agg #[A B 0,A B 0],.bool false]):=by
 go_enter Tryz.func223,Tryz.ntmps223;go_wp2_with fail;go_region_held3 (fun w'=>w'.cell? ⟨w.heap.size,0,none⟩=some (A B al)/\w'.cell? ⟨w.heap.size,1,none⟩=some (A B al)/\w'.cell? ⟨w.heap.size+1,0,none⟩=some (A B al)/\w'.cell? ⟨w.heap.size+1,1,none⟩=some (A B al)) (first|(simp[go_sem];done)|(simp[go_sem, *];done)|go_keep) (first|(go_at_call 86;refine(z2n _ _).mono ?_;rintro e w' ⟨rfl,rfl⟩))
 all_goals go_wp2
 all_goals exact bodyPost_ret (v:= .tuple #[.agg #[A B 0,A B 0],.agg #[A B 0,A B 0],.bool false]) (by simp[results,Tryz.results223,go_sem]) rfl ⟨rfl,kB⟩
attribute [local simp] z0a
theorem q3m(al ah bl bh:Int)(pal: -9223372036854775808<=al)(qal:al<=9223372036854775807)(pah: -9223372036854775808<=ah)(qah:ah<=9223372036854775807)(pbl: -9223372036854775808<=bl)(qbl:bl<=9223372036854775807)(pbh: -9223372036854775808<=bh)(qbh:bh<=9223372036854775807)(oa:al<=ah)(ob:bl<=bh)(hne: ¬al=bl)(w:World):zR 223 #[.agg #[A B al,A B ah],.agg #[A B bl,A B bh]] w (.tuple #[.agg #[A B ((cutV al ah bl bh).1),A B ((cutV al ah bl bh).2)],.agg #[A B ((cutV bl bh al ah).1),A B ((cutV bl bh al ah).2)],.bool true]):=by
 go_enter Tryz.func223,Tryz.ntmps223;go_wp2_with fail;go_quiet (fail)
 go_wp2_with fail;go_region_held3 (fun w'=>w'.cell? ⟨w.heap.size,0,none⟩=some (A B al)/\w'.cell? ⟨w.heap.size,1,none⟩=some (A B ah)/\w'.cell? ⟨w.heap.size+1,0,none⟩=some (A B bl)/\w'.cell? ⟨w.heap.size+1,1,none⟩=some (A B bh)) (first|(simp[go_sem];done)|(simp[go_sem, *];done)|go_keep) (first|(go_at_call 86;refine(z2n _ _).mono ?_;rintro e w' ⟨rfl,rfl⟩)|(go_at_call 226;refine(zAl _ _ _ _ ?_ ?_ ?_ _).mono ?_;omega;omega;omega;rintro e w1 ⟨rfl,hb1⟩;have hX1:Quad w.heap.size al ah bl bh w1:=Quad.later (by first|exact hX1|(refine⟨?_,?_,?_,?_,?_,?_,?_,?_,?_,?_,?_,?_,?_,?_,?_,?_,?_⟩<;>simp[go_sem])) hb1;have hbw1:Below w.heap.size w w1:=kT hb1;have hY:=hX1;obtain⟨t0,a0,a1,af0,af1,b0,b1,bf0,bf1,r0,r1,rf0,rf1,s0,s1,sf0,sf1⟩:=hY))
 all_goals go_wp2_with fail
 all_goals exact bodyPost_ret (v:= .tuple #[.agg #[A B ((cutV al ah bl bh).1),A B ((cutV al ah bl bh).2)],.agg #[A B ((cutV bl bh al ah).1),A B ((cutV bl bh al ah).2)],.bool true]) (by simp[results,Tryz.results223,go_sem,r0,r1,s0,s1]) rfl ⟨rfl,kB⟩
theorem q3l(al ah bh:Int)(pal: -9223372036854775808<=al)(qal:al<=9223372036854775807)(pah: -9223372036854775808<=ah)(qah:ah<=9223372036854775807)(pbh: -9223372036854775808<=bh)(qbh:bh<=9223372036854775807)(oa:al<=ah)(ob:al<=bh)(hne: ¬ah=bh)(w:World):zR 223 #[.agg #[A B al,A B ah],.agg #[A B al,A B bh]] w (.tuple #[.agg #[A B ((cutV al ah al bh).1),A B ((cutV al ah al bh).2)],.agg #[A B ((cutV al bh al ah).1),A B ((cutV al bh al ah).2)],.bool true]):=by
 go_enter Tryz.func223,Tryz.ntmps223;go_wp2_with fail;go_quiet (fail)
 go_wp2_with fail;go_region_held3 (fun w'=>w'.cell? ⟨w.heap.size,0,none⟩=some (A B al)/\w'.cell? ⟨w.heap.size,1,none⟩=some (A B ah)/\w'.cell? ⟨w.heap.size+1,0,none⟩=some (A B al)/\w'.cell? ⟨w.heap.size+1,1,none⟩=some (A B bh)) (first|(simp[go_sem];done)|(simp[go_sem, *];done)|go_keep) (first|(go_at_call 86;refine(z2n _ _).mono ?_;rintro e w' ⟨rfl,rfl⟩)|(go_at_call 226;refine(zAl _ _ _ _ ?_ ?_ ?_ _).mono ?_;omega;omega;omega;rintro e w1 ⟨rfl,hb1⟩;have hX1:Quad w.heap.size al ah al bh w1:=Quad.later (by first|exact hX1|(refine⟨?_,?_,?_,?_,?_,?_,?_,?_,?_,?_,?_,?_,?_,?_,?_,?_,?_⟩<;>simp[go_sem])) hb1;have hbw1:Below w.heap.size w w1:=kT hb1;have hY:=hX1;obtain⟨t0,a0,a1,af0,af1,b0,b1,bf0,bf1,r0,r1,rf0,rf1,s0,s1,sf0,sf1⟩:=hY))
 all_goals go_wp2_with fail
 all_goals exact bodyPost_ret (v:= .tuple #[.agg #[A B ((cutV al ah al bh).1),A B ((cutV al ah al bh).2)],.agg #[A B ((cutV al bh al ah).1),A B ((cutV al bh al ah).2)],.bool true]) (by simp[results,Tryz.results223,go_sem,r0,r1,s0,s1]) rfl ⟨rfl,kB⟩
theorem q3n(al ah:Int)(pal: -9223372036854775808<=al)(qal:al<=9223372036854775807)(pah: -9223372036854775808<=ah)(qah:ah<=9223372036854775807)(oa:al<=ah)(hne: ¬ah=al)(w:World):zR 223 #[.agg #[A B al,A B ah],.agg #[A B al,A B ah]] w (.tuple #[.agg #[A B ((cutV al ah al ah).1),A B ((cutV al ah al ah).2)],.agg #[A B ((cutV al ah al ah).1),A B ((cutV al ah al ah).2)],.bool true]):=by
 go_enter Tryz.func223,Tryz.ntmps223;go_wp2_with fail;go_region_held3 (fun w'=>w'.cell? ⟨w.heap.size,0,none⟩=some (A B al)/\w'.cell? ⟨w.heap.size,1,none⟩=some (A B ah)/\w'.cell? ⟨w.heap.size+1,0,none⟩=some (A B al)/\w'.cell? ⟨w.heap.size+1,1,none⟩=some (A B ah)) (first|(simp[go_sem];done)|(simp[go_sem, *];done)|go_keep) (first|(go_at_call 86;refine(z2n _ _).mono ?_;rintro e w' ⟨rfl,rfl⟩))
 all_goals go_wp2_with fail
 go_region_held3 (fun w'=>w'.cell? ⟨w.heap.size,0,none⟩=some (A B al)/\w'.cell? ⟨w.heap.size,1,none⟩=some (A B ah)/\w'.cell? ⟨w.heap.size+1,0,none⟩=some (A B al)/\w'.cell? ⟨w.heap.size+1,1,none⟩=some (A B ah)) (first|(simp[go_sem];done)|(simp[go_sem, *];done)|go_keep) (first|(go_at_call 86;refine(z2n _ _).mono ?_;rintro e w' ⟨rfl,rfl⟩)|(go_at_call 226;refine(zAl _ _ _ _ ?_ ?_ ?_ _).mono ?_;omega;omega;omega;rintro e w1 ⟨rfl,hb1⟩;have hX1:Quad w.heap.size al ah al ah w1:=Quad.later (by first|exact hX1|(refine⟨?_,?_,?_,?_,?_,?_,?_,?_,?_,?_,?_,?_,?_,?_,?_,?_,?_⟩<;>simp[go_sem])) hb1;have hbw1:Below w.heap.size w w1:=kT hb1;have hY:=hX1;obtain⟨t0,a0,a1,af0,af1,b0,b1,bf0,bf1,r0,r1,rf0,rf1,s0,s1,sf0,sf1⟩:=hY))
 all_goals go_wp2_with fail
 all_goals exact bodyPost_ret (v:= .tuple #[.agg #[A B ((cutV al ah al ah).1),A B ((cutV al ah al ah).2)],.agg #[A B ((cutV al ah al ah).1),A B ((cutV al ah al ah).2)],.bool true]) (by simp[results,Tryz.results223,go_sem,r0,r1,s0,s1]) rfl ⟨rfl,kB⟩
end
end Go.Proofs.YtkdflpplamebkaaGreatDoor
