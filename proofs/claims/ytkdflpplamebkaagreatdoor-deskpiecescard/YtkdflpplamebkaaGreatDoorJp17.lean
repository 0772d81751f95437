/-
A part of the proof of DeskPieces; its card says what is proved.
-/
import Derived.Test.YtkdflpplamebkaaGreatDoorJp16
set_option maxHeartbeats 40000000
open Go.Value renaming int → A
open Go.IntKind renaming i64 → B
set_option maxRecDepth 1000000
set_option linter.defProp false
set_option linter.unusedVariables false
set_option linter.unusedSimpArgs false
open Go.Ending renaming returned → rT
open Go.Obj renaming cells → cT
open Go.Proofs.Tryz renaming prog → tP
namespace Go.Proofs.YtkdflpplamebkaaGreatDoor
open Go.ChangeShapes Go.WideShapes Go.ChangeAt Go.RowKit
attribute [local simp] z05
theorem zH8(a k:Int)(h0:0<=k)(h1:k<64)(w:World):Calls tP 117 #[A B a,A B k] w fun e w'=>e= rT (.agg #[A B (wrap64 (a*2^k.toNat)),.bool (fits (a*2^k.toNat))])/\w'=w.alloc (cT #[A B (wrap64 (a*2^k.toNat)),.bool (fits (a*2^k.toNat))] 149):=by
 have hf:Hid ((wrap64 (a*2^k.toNat)/2^k.toNat==a)=fits (a*2^k.toNat)):=q01 kO;go_enter Tryz.func117,Tryz.ntmps117;go_wp2;rw[hf.out];exact bodyPost_ret (v:= .agg #[A B (wrap64 (a*2^k.toNat)),.bool (fits (a*2^k.toNat))]) (by simp[results,Tryz.results117,go_sem]) rfl ⟨rfl,rfl⟩
theorem zIc(a b:Int)(pa: -9223372036854775808<=a)(qa:a<=9223372036854775807)(pb: -9223372036854775808<=b)(qb:b<=9223372036854775807)(w:World):Calls tP 79 #[A B a,A B b] w fun e w'=>e= rT (.agg #[A B (wrap64 (a+b)),.bool (fits (a+b))])/\w'=w.alloc (cT #[A B (wrap64 (a+b)),.bool (fits (a+b))] 149):=by
 have hf:Hid ((decide (a<=wrap64 (a+b))==decide (0<=b))=fits (a+b)):=zWj pa qa pb qb;clear pa qa pb qb;go_enter Tryz.func79,Tryz.ntmps79;go_wp2;rw[hf.out];exact bodyPost_ret (v:= .agg #[A B (wrap64 (a+b)),.bool (fits (a+b))]) (by simp[results,Tryz.results79,go_sem]) rfl ⟨rfl,rfl⟩
theorem zCj(a b:Int)(pa: -9223372036854775808<=a)(qa:a<=9223372036854775807)(pb: -9223372036854775808<=b)(qb:b<=9223372036854775807)(w:World):Calls tP 80 #[A B a,A B b] w fun e w'=>e= rT (.agg #[A B (wrap64 (a-b)),.bool (fits (a-b))])/\w'=w.alloc (cT #[A B (wrap64 (a-b)),.bool (fits (a-b))] 149):=by
 have hf:Hid ((decide (wrap64 (a-b)<=a)==decide (0<=b))=fits (a-b)):=zT4 pa qa pb qb;clear pa qa pb qb;go_enter Tryz.func80,Tryz.ntmps80;go_wp2;rw[hf.out];exact bodyPost_ret (v:= .agg #[A B (wrap64 (a-b)),.bool (fits (a-b))]) (by simp[results,Tryz.results80,go_sem]) rfl ⟨rfl,rfl⟩
theorem z2n(n:Int)(w:World):Calls tP 86 #[A B n] w fun e w'=>e= rT (.agg #[A B n,A B n])/\w'=w.alloc (cT #[A B n,A B n] 84):=by
 go_enter Tryz.func86,Tryz.ntmps86;go_wp2;exact bodyPost_ret (v:= .agg #[A B n,A B n]) (by simp[results,Tryz.results86,go_sem]) rfl ⟨rfl,rfl⟩
theorem z7d(u v:Int)(w:World):zR 78 #[.agg #[A B (wrap64 u),.bool (fits u),A B (wrap64 v),.bool (fits v)]] w (.agg #[A B ((fit2 u v).1),A B ((fit2 u v).2)]):=by
 rw[<-fit2_1, <-fit2_2];exact zUh _ _ _ _ w
theorem zLt(al ah bl bh:Int):(∀(ha:al<0)(w:World),zR 82 #[.agg #[A B al,A B ah],.agg #[A B bl,A B bh]] w (.agg #[A B (-9223372036854775808),A B 9223372036854775807]))/\(∀(ha:0<=al)(hb:bl<0)(w:World),zR 82 #[.agg #[A B al,A B ah],.agg #[A B bl,A B bh]] w (.agg #[A B (-9223372036854775808),A B 9223372036854775807])):=by
 refine⟨?_,?_⟩;intro ha w;have _ha:decide (0<=al)=false:=kZ;rotate_left;intro ha hb w;have _hb:decide (0<=bl)=false:=kZ;rotate_left
 all_goals
  go_enter Tryz.func82,Tryz.ntmps82;go_wp2_with(first|(go_at_call 89;refine(z3l _).mono ?_;rintro e w1 ⟨rfl,hb1⟩;obtain⟨hcl1,hfr1⟩:=z0h hb1;have hs1:=hb1.size;(try simp only[z05]at hs1);(try simp at hs1);have hbw1:Below w.heap.size w w1:=kT hb1)|(go_at_call 115;refine(z2p _ _ _ ?_ ?_ _).mono ?_;omega;omega;rintro e w' ⟨rfl,rfl⟩)|go_in)
  all_goals exact bodyPost_ret (v:= .agg #[A B (-9223372036854775808),A B 9223372036854775807]) (by simp[results,Tryz.results82,go_sem,hcl1]) rfl ⟨rfl,kB⟩
def zDg:=fun al ah bl bh=>(@zLt al ah bl bh).1
def zDf:=fun al ah bl bh=>(@zLt al ah bl bh).2
theorem zG7(al ah bl bh:Int)(ha:0<=al)(hb:0<=bl)(hz:bl<=0)(w:World):zR 82 #[.agg #[A B al,A B ah],.agg #[A B bl,A B bh]] w (.agg #[A B 0,A B ah]):=by
 have _hz:decide (0<bl)=false:=kZ;go_enter Tryz.func82,Tryz.ntmps82;go_wp2_with(first|(go_at_call 89;refine(z3l _).mono ?_;rintro e w1 ⟨rfl,hb1⟩;obtain⟨hcl1,hfr1⟩:=z0h hb1;have hs1:=hb1.size;(try simp only[z05]at hs1);(try simp at hs1);have hbw1:Below w.heap.size w w1:=kT hb1)|(go_at_call 115;refine(z2p _ _ _ ?_ ?_ _).mono ?_;omega;omega;rintro e w' ⟨rfl,rfl⟩)|go_in)
 all_goals exact bodyPost_ret (v:= .agg #[A B 0,A B ah]) (by simp[results,Tryz.results82,go_sem]) rfl ⟨rfl,kB⟩
theorem zLs(al ah bl bh:Int):(∀(ha:al<0)(w:World),zR 83 #[.agg #[A B al,A B ah],.agg #[A B bl,A B bh]] w (.agg #[A B (-9223372036854775808),A B 9223372036854775807]))/\(∀(ha:0<=al)(hb:bl<0)(w:World),zR 83 #[.agg #[A B al,A B ah],.agg #[A B bl,A B bh]] w (.agg #[A B (-9223372036854775808),A B 9223372036854775807])):=by
 refine⟨?_,?_⟩;intro ha w;have _ha:decide (0<=al)=false:=kZ;rotate_left;intro ha hb w;have _hb:decide (0<=bl)=false:=kZ;rotate_left
 all_goals
  go_enter Tryz.func83,Tryz.ntmps83;go_wp2_with(first|(go_at_call 89;refine(z3l _).mono ?_;rintro e w1 ⟨rfl,hb1⟩;obtain⟨hcl1,hfr1⟩:=z0h hb1;have hs1:=hb1.size;(try simp only[z05]at hs1);(try simp at hs1);have hbw1:Below w.heap.size w w1:=kT hb1)|(go_at_call 115;refine(z2p _ _ _ ?_ ?_ _).mono ?_;omega;omega;rintro e w' ⟨rfl,rfl⟩)|go_in)
  all_goals exact bodyPost_ret (v:= .agg #[A B (-9223372036854775808),A B 9223372036854775807]) (by simp[results,Tryz.results83,go_sem,hcl1]) rfl ⟨rfl,kB⟩
def zWc:=fun al ah bl bh=>(@zLs al ah bl bh).1
def zWb:=fun al ah bl bh=>(@zLs al ah bl bh).2
theorem zG8(al ah bl bh:Int)(ha:0<=al)(hb:0<bl)(p1:bh<=9223372036854775807)(p2:bl<=9223372036854775807)(p3: -9223372036854775808<=bh)(w:World):zR 82 #[.agg #[A B al,A B ah],.agg #[A B bl,A B bh]] w (.agg #[A B (z0u 5 al bh),A B (z0u 5 ah bl)]):=by
 have hb0:0<=bl:=kO;go_enter Tryz.func82,Tryz.ntmps82;go_wp2_with(first|(go_at_call 114;go_in));go_region_held3 (fun w'=>w'.cell? ⟨w.heap.size,0,none⟩=some (A B al)/\w'.cell? ⟨w.heap.size,1,none⟩=some (A B ah)/\w'.cell? ⟨w.heap.size+1,0,none⟩=some (A B bl)/\w'.cell? ⟨w.heap.size+1,1,none⟩=some (A B bh)) (first|(simp[go_sem];done)|(simp[go_sem, *];done)|go_keep) (first|(go_at_call 115;refine(z2p _ _ _ ?_ ?_ _).mono ?_;omega;omega;rintro e w' ⟨rfl,rfl⟩))
 all_goals go_wp2_with(first|(go_at_call 115;refine(z2p _ _ _ ?_ ?_ _).mono ?_;omega;omega;rintro e w' ⟨rfl,rfl⟩))
 all_goals exact bodyPost_ret (v:= .agg #[A B (z0u 5 al bh),A B (z0u 5 ah bl)]) (by simp[results,Tryz.results82,go_sem]) rfl ⟨rfl,kB⟩
theorem zH3(al ah bl bh:Int)(ha:0<=al):(∀(hb:0<bl)(p1:bh<=9223372036854775807)(p3:bl<=bh)(w:World),zR 83 #[.agg #[A B al,A B ah],.agg #[A B bl,A B bh]] w (.agg #[A B 0,A B (min ah (bh-1))]))/\(∀(hb:0<=bl)(hz:bl<=0)(w:World),zR 83 #[.agg #[A B al,A B ah],.agg #[A B bl,A B bh]] w (.agg #[A B 0,A B ah])):=by
 refine⟨?_,?_⟩;intro hb p1 p3 w;have hb0:0<=bl:=kO;rotate_left;intro hb hz w;have _hz:decide (0<bl)=false:=kZ;rotate_left
 all_goals
  go_enter Tryz.func83,Tryz.ntmps83;go_wp2_with(first|(go_at_call 89;refine(z3l _).mono ?_;rintro e w1 ⟨rfl,hb1⟩;obtain⟨hcl1,hfr1⟩:=z0h hb1;have hs1:=hb1.size;(try simp only[z05]at hs1);(try simp at hs1);have hbw1:Below w.heap.size w w1:=kT hb1)|(go_at_call 115;refine(z2p _ _ _ ?_ ?_ _).mono ?_;omega;omega;rintro e w' ⟨rfl,rfl⟩)|go_in)
  all_goals exact bodyPost_ret (by simp[results,Tryz.results83,go_sem]) rfl ⟨rfl,kB⟩
def rest_p:=fun al ah bl bh ha=>(@zH3 al ah bl bh ha).1
def q3w:=fun al ah bl bh ha=>(@zH3 al ah bl bh ha).2
theorem zEc(al ah bl bh:Int):(∀(ha:0<=al)(hb:0<=bl)(w:World),zR 84 #[.agg #[A B al,A B ah],.agg #[A B bl,A B bh]] w (.agg #[A B 0,A B (min ah bh)]))/\(∀(ha:al<0)(hb:0<=bl)(w:World),zR 84 #[.agg #[A B al,A B ah],.agg #[A B bl,A B bh]] w (.agg #[A B 0,A B bh]))/\(∀(ha:0<=al)(hb:bl<0)(w:World),zR 84 #[.agg #[A B al,A B ah],.agg #[A B bl,A B bh]] w (.agg #[A B 0,A B ah])):=by
 refine⟨?_,?_,?_⟩
 all_goals
  intro ha hb w
 rotate_left;have _ha:decide (0<=al)=false:=kZ;rotate_left;have _hb:decide (0<=bl)=false:=kZ;rotate_left
 all_goals
  go_enter Tryz.func84,Tryz.ntmps84;go_wp2_with(first|(go_at_call 89;refine(z3l _).mono ?_;rintro e w1 ⟨rfl,hb1⟩;obtain⟨hcl1,hfr1⟩:=z0h hb1;have hs1:=hb1.size;(try simp only[z05]at hs1);(try simp at hs1);have hbw1:Below w.heap.size w w1:=kT hb1)|(go_at_call 115;refine(z2p _ _ _ ?_ ?_ _).mono ?_;omega;omega;rintro e w' ⟨rfl,rfl⟩)|go_in)
  all_goals exact bodyPost_ret (by simp[results,Tryz.results84,go_sem]) rfl ⟨rfl,kB⟩
def zYk:=fun al ah bl bh=>(@zEc al ah bl bh).1
def zYm:=fun al ah bl bh=>(@zEc al ah bl bh).2.1
def zYl:=fun al ah bl bh=>(@zEc al ah bl bh).2.2
theorem zYn(al ah bl bh:Int)(ha:al<0)(hb:bl<0)(w:World):zR 84 #[.agg #[A B al,A B ah],.agg #[A B bl,A B bh]] w (.agg #[A B (-9223372036854775808),A B 9223372036854775807]):=by
 have _ha:decide (0<=al)=false:=kZ;have _hb:decide (0<=bl)=false:=kZ;go_enter Tryz.func84,Tryz.ntmps84;go_wp2_with(first|(go_at_call 89;refine(z3l _).mono ?_;rintro e w1 ⟨rfl,hb1⟩;obtain⟨hcl1,hfr1⟩:=z0h hb1;have hs1:=hb1.size;(try simp only[z05]at hs1);(try simp at hs1);have hbw1:Below w.heap.size w w1:=kT hb1)|(go_at_call 115;refine(z2p _ _ _ ?_ ?_ _).mono ?_;omega;omega;rintro e w' ⟨rfl,rfl⟩)|go_in)
 all_goals exact bodyPost_ret (v:= .agg #[A B (-9223372036854775808),A B 9223372036854775807]) (by simp[results,Tryz.results84,go_sem,hcl1]) rfl ⟨rfl,kB⟩
theorem zY7(lo al ah bl bh:Int)(ha:0<=al)(hb:0<=bl)(p1: -9223372036854775808<=max ah bh)(p2:max ah bh<=9223372036854775807)(w:World):zR 85 #[A B lo,.agg #[A B al,A B ah],.agg #[A B bl,A B bh]] w (.agg #[A B lo,A B (z5t (max ah bh))]):=by
 go_enter Tryz.func85,Tryz.ntmps85;go_wp2_with(first|(go_at_call 89;refine(z3l _).mono ?_;rintro e w1 ⟨rfl,hb1⟩;obtain⟨hcl1,hfr1⟩:=z0h hb1;have hs1:=hb1.size;(try simp only[z05]at hs1);(try simp at hs1);have hbw1:Below w.heap.size w w1:=kT hb1)|(go_at_call 116;refine(zQu _ ?_ ?_ _).mono ?_;omega;omega;rintro e w' ⟨rfl,rfl⟩)|go_in)
 all_goals exact bodyPost_ret (v:= .agg #[A B lo,A B (z5t (max ah bh))]) (by simp[results,Tryz.results85,go_sem]) rfl ⟨rfl,kB⟩
theorem zLq(lo al ah bl bh:Int):(∀(ha:al<0)(w:World),zR 85 #[A B lo,.agg #[A B al,A B ah],.agg #[A B bl,A B bh]] w (.agg #[A B (-9223372036854775808),A B 9223372036854775807]))/\(∀(ha:0<=al)(hb:bl<0)(w:World),zR 85 #[A B lo,.agg #[A B al,A B ah],.agg #[A B bl,A B bh]] w (.agg #[A B (-9223372036854775808),A B 9223372036854775807])):=by
 refine⟨?_,?_⟩;intro ha w;have _ha:decide (0<=al)=false:=kZ;rotate_left;intro ha hb w;have _hb:decide (0<=bl)=false:=kZ;rotate_left
 all_goals
  go_enter Tryz.func85,Tryz.ntmps85;go_wp2_with(first|(go_at_call 89;refine(z3l _).mono ?_;rintro e w1 ⟨rfl,hb1⟩;obtain⟨hcl1,hfr1⟩:=z0h hb1;have hs1:=hb1.size;(try simp only[z05]at hs1);(try simp at hs1);have hbw1:Below w.heap.size w w1:=kT hb1)|(go_at_call 116;refine(zQu _ ?_ ?_ _).mono ?_;omega;omega;rintro e w' ⟨rfl,rfl⟩)|go_in)
  all_goals exact bodyPost_ret (v:= .agg #[A B (-9223372036854775808),A B 9223372036854775807]) (by simp[results,Tryz.results85,go_sem,hcl1]) rfl ⟨rfl,kB⟩
def zY9:=fun lo al ah bl bh=>(@zLq lo al ah bl bh).1
def zY8:=fun lo al ah bl bh=>(@zLq lo al ah bl bh).2
theorem zLr(al ah:Int):(∀(w:World),zR 88 #[A B 10,.agg #[A B al,A B ah]] w (.agg #[A B (-9223372036854775808),A B 9223372036854775807]))/\(∀(ha:al<0)(w:World),zR 88 #[A B 11,.agg #[A B al,A B ah]] w (.agg #[A B (-9223372036854775808),A B 9223372036854775807])):=by
 refine⟨?_,?_⟩;intro w;rotate_left;intro ha w;have _ha:decide (0<=al)=false:=kZ;rotate_left
 all_goals
  go_enter Tryz.func88,Tryz.ntmps88;go_wp2_with(first|(go_at_call 89;refine(z3l _).mono ?_;rintro e w1 ⟨rfl,hb1⟩;obtain⟨hcl1,hfr1⟩:=z0h hb1;have hs1:=hb1.size;(try simp only[z05]at hs1);(try simp at hs1);have hbw1:Below w.heap.size w w1:=kT hb1)|(go_at_call 115;refine(z2p _ _ _ ?_ ?_ _).mono ?_;omega;omega;rintro e w' ⟨rfl,rfl⟩)|go_in)
  all_goals exact bodyPost_ret (v:= .agg #[A B (-9223372036854775808),A B 9223372036854775807]) (by simp[results,Tryz.results88,go_sem,hcl1]) rfl ⟨rfl,kB⟩
def any_10:=fun al ah=>(@zLr al ah).1
def any_11:=fun al ah=>(@zLr al ah).2
theorem zEb:(∀(al ah:Int)(ha:al<0)(hh:ah<0)(w:World),zR 88 #[A B 12,.agg #[A B al,A B ah]] w (.agg #[A B al,A B (-1)]))/\(∀(al ah:Int)(ha:al<0)(hh:0<=ah)(w:World),zR 88 #[A B 12,.agg #[A B al,A B ah]] w (.agg #[A B al,A B ah]))/\(∀(c al ah:Int)(hc:c=11\/c=12)(ha:0<=al)(w:World),zR 88 #[A B c,.agg #[A B al,A B ah]] w (.agg #[A B 0,A B ah])):=by
 refine⟨?_,?_,?_⟩;intro al ah ha hh w;have _ha:decide (0<=al)=false:=kZ;rotate_left;intro al ah ha hh w;have _ha:decide (0<=al)=false:=kZ;have _hh:decide (ah<0)=false:=kZ;rotate_left;intro c al ah hc ha w;have _hc:(c==10)=false:=kZ;rotate_left
 all_goals
  go_enter Tryz.func88,Tryz.ntmps88;go_wp2_with(first|(go_at_call 89;refine(z3l _).mono ?_;rintro e w1 ⟨rfl,hb1⟩;obtain⟨hcl1,hfr1⟩:=z0h hb1;have hs1:=hb1.size;(try simp only[z05]at hs1);(try simp at hs1);have hbw1:Below w.heap.size w w1:=kT hb1)|(go_at_call 115;refine(z2p _ _ _ ?_ ?_ _).mono ?_;omega;omega;rintro e w' ⟨rfl,rfl⟩)|go_in)
  all_goals exact bodyPost_ret (by simp[results,Tryz.results88,go_sem]) rfl ⟨rfl,kB⟩
def q73:=zEb.1
def any_12:=zEb.2.1
def any_p:=zEb.2.2
theorem zSc(al ah:Int)(k:Int)(h0:0<=k)(h1:k<64)(w:World):zR 87 #[A B 10,.agg #[A B al,A B ah],A B k] w (.agg #[A B ((fit2 (al*2^k.toNat) (ah*2^k.toNat)).1),A B ((fit2 (al*2^k.toNat) (ah*2^k.toNat)).2)]):=by
 go_enter Tryz.func87,Tryz.ntmps87;go_wp2_with fail;go_region_held3 (fun w'=>w'.cell? ⟨w.heap.size,0,none⟩=some (A B al)/\w'.cell? ⟨w.heap.size,1,none⟩=some (A B ah)) (first|(simp[go_sem];done)|(simp[go_sem, *];done)|go_keep) (first|(go_at_call 117;refine(zH8 _ _ ?_ ?_ _).mono ?_;omega;omega;rintro e w' ⟨rfl,rfl⟩)|(go_at_call 79;refine(zIc _ _ ?_ ?_ ?_ ?_ _).mono ?_;omega;omega;omega;omega;rintro e w' ⟨rfl,rfl⟩)|(go_at_call 80;refine(zCj _ _ ?_ ?_ ?_ ?_ _).mono ?_;omega;omega;omega;omega;rintro e w' ⟨rfl,rfl⟩)|(go_at_call 78;refine(z7d _ _ _).mono ?_;rintro e w1 ⟨rfl,hb1⟩;obtain⟨hcl1,hfr1⟩:=z0h hb1;have hs1:=hb1.size;(try simp only[z05]at hs1);(try simp at hs1);have hbw1:Below w.heap.size w w1:=kT hb1))
 all_goals go_wp2_with(first|(go_at_call 117;refine(zH8 _ _ ?_ ?_ _).mono ?_;omega;omega;rintro e w' ⟨rfl,rfl⟩)|(go_at_call 79;refine(zIc _ _ ?_ ?_ ?_ ?_ _).mono ?_;omega;omega;omega;omega;rintro e w' ⟨rfl,rfl⟩)|(go_at_call 80;refine(zCj _ _ ?_ ?_ ?_ ?_ _).mono ?_;omega;omega;omega;omega;rintro e w' ⟨rfl,rfl⟩)|(go_at_call 78;refine(z7d _ _ _).mono ?_;rintro e w1 ⟨rfl,hb1⟩;obtain⟨hcl1,hfr1⟩:=z0h hb1;have hs1:=hb1.size;(try simp only[z05]at hs1);(try simp at hs1);have hbw1:Below w.heap.size w w1:=kT hb1))
 all_goals exact bodyPost_ret (v:= .agg #[A B ((fit2 (al*2^k.toNat) (ah*2^k.toNat)).1),A B ((fit2 (al*2^k.toNat) (ah*2^k.toNat)).2)]) (by simp[results,Tryz.results87,go_sem,hcl1]) rfl ⟨rfl,kB⟩
theorem zNa(al ah:Int)(k:Int)(h0:0<=k)(h1:k<64)(hk:0<k)(ha:al<0)(w:World):zR 87 #[A B 11,.agg #[A B al,A B ah],A B k] w (.agg #[A B 0,A B (z0u 11 (-1) k)]):=by
 go_enter Tryz.func87,Tryz.ntmps87;go_wp2_with(first|(go_at_call 115;refine(z2p _ _ _ ?_ ?_ _).mono ?_;omega;omega;rintro e w' ⟨rfl,rfl⟩))
 all_goals exact bodyPost_ret (v:= .agg #[A B 0,A B (z0u 11 (-1) k)]) (by simp[results,Tryz.results87,go_sem]) rfl ⟨rfl,kB⟩
theorem zEd(al ah:Int)(k:Int)(h0:0<=k)(h1:k<64):(∀(hk:k=0)(w:World),zR 87 #[A B 11,.agg #[A B al,A B ah],A B k] w (.agg #[A B (z0u 11 al k),A B (z0u 11 ah k)]))/\(∀(w:World),zR 87 #[A B 12,.agg #[A B al,A B ah],A B k] w (.agg #[A B (z0u 12 al k),A B (z0u 12 ah k)]))/\(∀(hk:0<k)(ha:0<=al)(w:World),zR 87 #[A B 11,.agg #[A B al,A B ah],A B k] w (.agg #[A B (z0u 11 al k),A B (z0u 11 ah k)])):=by
 refine⟨?_,?_,?_⟩;intro hk w;have _hk:decide (0<k)=false:=kZ;clear hk;rotate_left;intro w;rotate_left;intro hk ha w;have _ha:decide (al<0)=false:=kZ;rotate_left
 all_goals
  go_enter Tryz.func87,Tryz.ntmps87;go_wp2_with fail;go_region_held3 (fun w'=>w'.cell? ⟨w.heap.size,0,none⟩=some (A B al)/\w'.cell? ⟨w.heap.size,1,none⟩=some (A B ah)) (first|(simp[go_sem];done)|(simp[go_sem, *];done)|go_keep) (first|(go_at_call 115;refine(z2p _ _ _ ?_ ?_ _).mono ?_;omega;omega;rintro e w' ⟨rfl,rfl⟩))
  all_goals go_wp2_with(first|(go_at_call 115;refine(z2p _ _ _ ?_ ?_ _).mono ?_;omega;omega;rintro e w' ⟨rfl,rfl⟩))
  all_goals exact bodyPost_ret (by simp[results,Tryz.results87,go_sem]) rfl ⟨rfl,kB⟩
def zN8:=fun al ah k h0 h1=>(@zEd al ah k h0 h1).1
def zSb:=fun al ah k h0 h1=>(@zEd al ah k h0 h1).2.1
def zN9:=fun al ah k h0 h1=>(@zEd al ah k h0 h1).2.2
theorem q48(x0 x1 x2 x3:Int)(w:World):(Instr.index 75 (.agg #[A B x0,A B x1,A B x2,A B x3]) (A B 0)).run tP w= .ok (A B x0) w:=kR
theorem q47(x0 x1 x2 x3:Int)(w:World):(Instr.index 75 (.agg #[A B x0,A B x1,A B x2,A B x3]) (A B 1)).run tP w= .ok (A B x1) w:=kR
theorem q46(x0 x1 x2 x3:Int)(w:World):(Instr.index 75 (.agg #[A B x0,A B x1,A B x2,A B x3]) (A B 2)).run tP w= .ok (A B x2) w:=kR
theorem q45(x0 x1 x2 x3:Int)(w:World):(Instr.index 75 (.agg #[A B x0,A B x1,A B x2,A B x3]) (A B 3)).run tP w= .ok (A B x3) w:=kR
theorem idx3_0(x0 x1 x2:Int)(w:World):(Instr.index 204 (.agg #[A B x0,A B x1,A B x2]) (A B 0)).run tP w= .ok (A B x0) w:=kR
theorem idx3_1(x0 x1 x2:Int)(w:World):(Instr.index 204 (.agg #[A B x0,A B x1,A B x2]) (A B 1)).run tP w= .ok (A B x1) w:=kR
theorem idx3_2(x0 x1 x2:Int)(w:World):(Instr.index 204 (.agg #[A B x0,A B x1,A B x2]) (A B 2)).run tP w= .ok (A B x2) w:=kR
def Firsts(p q r s:Int)(k:Nat)(lo hi:Int):Prop:=
 (k=0/\lo=p/\hi=p)\/(k=1/\lo=min p q/\hi=max p q)\/(k=2/\lo=min (min p q) r/\hi=max (max p q) r)\/(k=3/\lo=min (min (min p q) r) s/\hi=max (max (max p q) r) s)
def z1c(m r:Nat)(lo hi:Int)(w:World):Prop:=
 (m<w.heap.size/\w.cell? ⟨m,0,none⟩=some (A B lo)/\w.cell? ⟨m,1,none⟩=some (A B hi)/\w.frozen? ⟨m,0,none⟩=false/\w.frozen? ⟨m,1,none⟩=false)
 /\(r<w.heap.size/\w.cell? ⟨r,0,none⟩=some (A B 0)/\w.cell? ⟨r,1,none⟩=some (A B 0)/\w.frozen? ⟨r,0,none⟩=false/\w.frozen? ⟨r,1,none⟩=false)
theorem z1c.later{m r:Nat}{lo hi:Int}{W w1:World}(h:z1c m r lo hi W)(hb:Below W.heap.size W w1):z1c m r lo hi w1:=by
 obtain⟨⟨h0,a0,a1,a2,a3⟩,h1,b0,b1,b2,b3⟩:=h;have hs:=hb.size
 exact⟨⟨by omega,(hb.cell (p:=⟨m,0,none⟩) h0).trans a0,(hb.cell (p:=⟨m,1,none⟩) h0).trans a1,(hb.frozen (p:=⟨m,0,none⟩) h0).trans a2,(hb.frozen (p:=⟨m,1,none⟩) h0).trans a3⟩,
  by omega,(hb.cell (p:=⟨r,0,none⟩) h1).trans b0,(hb.cell (p:=⟨r,1,none⟩) h1).trans b1,(hb.frozen (p:=⟨r,0,none⟩) h1).trans b2,(hb.frozen (p:=⟨r,1,none⟩) h1).trans b3⟩
theorem z1c.drew{m r:Nat}{lo hi:Int}{W:World}(h:z1c m r lo hi W):z1c m r lo hi W.drew:=h
theorem z1c.put{m r:Nat}{lo hi x y:Int}{W:World}(h:z1c m r lo hi W)(hmr:m≠r):z1c m r x y ((W.setCell ⟨m,0,none⟩ (A B x)).setCell ⟨m,1,none⟩ (A B y)):=by
 obtain⟨⟨h0,a0,a1,a2,a3⟩,h1,b0,b1,b2,b3⟩:=h;refine⟨⟨by simp[World.setCell];exact h0,?_,?_,?_,?_⟩,by simp[World.setCell];exact h1,?_,?_,?_,?_⟩<;>simp[go_sem, *]
theorem zNn(al ah bl bh:Int)(ha: -2147483648<=al)(ha2:al<=2147483648)(hb: -2147483648<=ah)(hb2:ah<=2147483648)(hc: -2147483648<=bl)(hc2:bl<=2147483648)(hd: -2147483648<=bh)(hd2:bh<=2147483648)(w:World):zR 81 #[.agg #[A B al,A B ah],.agg #[A B bl,A B bh]] w (.agg #[A B (min (min (min (wrap64 (al*bl)) (wrap64 (al*bh))) (wrap64 (ah*bl))) (wrap64 (ah*bh))),A B (max (max (max (wrap64 (al*bl)) (wrap64 (al*bh))) (wrap64 (ah*bl))) (wrap64 (ah*bh)))]):=by
 have i40:=q48 al ah bl bh;have i41:=q47 al ah bl bh;have i42:=q46 al ah bl bh;have i43:=q45 al ah bl bh;have i30:=idx3_0 (wrap64 (al*bh)) (wrap64 (ah*bl)) (wrap64 (ah*bh));have i31:=idx3_1 (wrap64 (al*bh)) (wrap64 (ah*bl)) (wrap64 (ah*bh));have i32:=idx3_2 (wrap64 (al*bh)) (wrap64 (ah*bl)) (wrap64 (ah*bh));go_enter Tryz.func81,Tryz.ntmps81;go_wp2_with(first|(go_at_call 86;refine(z2n _ _).mono ?_;rintro e w' ⟨rfl,rfl⟩)|go_in);refine wp_loop_rounds 5 ?_
 repeat any_goals(rw[rounds_succ];go_wp2_with(first|(go_at_call 86;refine(z2n _ _).mono ?_;rintro e w' ⟨rfl,rfl⟩)|go_in))
 go_loopw [52] (fun ix wr=> ∃(k:Nat)(lo hi:Int),Firsts (wrap64 (al*bl)) (wrap64 (al*bh)) (wrap64 (ah*bl)) (wrap64 (ah*bh)) k lo hi/\ix=A B k/\Below w.heap.size w wr/\z1c (w.heap.size+1+1+1+1+1+1+1+1+1) (w.heap.size+1+1) lo hi wr) (fun ix _=>3-(intOf ix).toNat)
 case atStart=>exact⟨0,_,_,Or.inl ⟨rfl,rfl,rfl⟩,rfl,kB,⟨by(simp;try omega),by simp[go_sem],by simp[go_sem],by simp[go_sem],by simp[go_sem]⟩,by(simp;try omega),by simp[go_sem],by simp[go_sem],by simp[go_sem],by simp[go_sem]⟩
 case round=>
  obtain⟨k,lo,hi,hk,rfl,hbw,hX⟩:=hrel;have hmr:w.heap.size+1+1+1+1+1+1+1+1+1≠w.heap.size+1+1:=kO;have hw1:w.heap.size<=w.heap.size+1+1+1+1+1+1+1+1+1:=kO;have hw2:w.heap.size<=w.heap.size+1+1:=kO;generalize w.heap.size+1+1+1+1+1+1+1+1+1=m at*;generalize w.heap.size+1+1=r at*;obtain⟨⟨m0,c0,c1,f0,f1⟩,n0,r0,r1,z0,z1⟩:=hX;have hX:z1c m r lo hi wr:=⟨⟨m0,c0,c1,f0,f1⟩,n0,r0,r1,z0,z1⟩;have hsz:=hbw.size;have hsz:w.heap.size<=wr.heap.size:=hbw.size;rcases hk with⟨rfl,hlo,hhi⟩|⟨rfl,hlo,hhi⟩|⟨rfl,hlo,hhi⟩|⟨rfl,rfl,rfl⟩
  ·have Hlo:Hid (_=_):=hlo
   have Hhi:Hid (_=_):=hhi;clear hlo hhi;go_wp2_with(first|(go_at_call 86;refine(z3c _ _).mono ?_;rintro e w1 ⟨rfl,hb1⟩;have hbw1:Below w.heap.size w w1:=(by((refine Below.trans ?_ (hb1.mono ?_))<;>(first|exact hbw|exact hbw.drew|exact hbw1|exact hbw1.drew|exact hsz|exact hsz1)));have hX1:z1c m r lo hi w1:=z1c.later (by first|exact hX.drew|exact hX) hb1;have hsz1:w.heap.size<=w1.heap.size:=hbw1.size;obtain⟨⟨m1,c01,c11,f01,f11⟩,n1,r01,r11,z01,z11⟩:=hX1;have hX1:z1c m r lo hi w1:=⟨⟨m1,c01,c11,f01,f11⟩,n1,r01,r11,z01,z11⟩)|(go_at_call 111;refine(z3z _ _ _ _ _).mono ?_;rintro e w2 ⟨rfl,hb2⟩;have hbw2:Below w.heap.size w w2:=(by((refine Below.trans ?_ (hb2.mono ?_))<;>(first|exact hbw|exact hbw.drew|exact hbw1|exact hbw1.drew|exact hsz|exact hsz1)));have hX2:z1c m r lo hi w2:=z1c.later (by first|exact hX1|exact hX1.drew) hb2;have hsz2:w.heap.size<=w2.heap.size:=hbw2.size;obtain⟨⟨m2,c02,c12,f02,f12⟩,n2,r02,r12,z02,z12⟩:=hX2;have hX2:z1c m r lo hi w2:=⟨⟨m2,c02,c12,f02,f12⟩,n2,r02,r12,z02,z12⟩));go_region_with (first|(go_at_call 86;refine(z3c _ _).mono ?_;rintro e w1 ⟨rfl,hb1⟩;have hbw1:Below w.heap.size w w1:=(by((refine Below.trans ?_ (hb1.mono ?_))<;>(first|exact hbw|exact hbw.drew|exact hbw1|exact hbw1.drew|exact hsz|exact hsz1)));have hX1:z1c m r lo hi w1:=z1c.later (by first|exact hX.drew|exact hX) hb1;have hsz1:w.heap.size<=w1.heap.size:=hbw1.size;obtain⟨⟨m1,c01,c11,f01,f11⟩,n1,r01,r11,z01,z11⟩:=hX1;have hX1:z1c m r lo hi w1:=⟨⟨m1,c01,c11,f01,f11⟩,n1,r01,r11,z01,z11⟩)|(go_at_call 111;refine(z3z _ _ _ _ _).mono ?_;rintro e w2 ⟨rfl,hb2⟩;have hbw2:Below w.heap.size w w2:=(by((refine Below.trans ?_ (hb2.mono ?_))<;>(first|exact hbw|exact hbw.drew|exact hbw1|exact hbw1.drew|exact hsz|exact hsz1)));have hX2:z1c m r lo hi w2:=z1c.later (by first|exact hX1|exact hX1.drew) hb2;have hsz2:w.heap.size<=w2.heap.size:=hbw2.size;obtain⟨⟨m2,c02,c12,f02,f12⟩,n2,r02,r12,z02,z12⟩:=hX2;have hX2:z1c m r lo hi w2:=⟨⟨m2,c02,c12,f02,f12⟩,n2,r02,r12,z02,z12⟩))
   all_goals go_wp2_with(first|(go_at_call 86;refine(z3c _ _).mono ?_;rintro e w1 ⟨rfl,hb1⟩;have hbw1:Below w.heap.size w w1:=(by((refine Below.trans ?_ (hb1.mono ?_))<;>(first|exact hbw|exact hbw.drew|exact hbw1|exact hbw1.drew|exact hsz|exact hsz1)));have hX1:z1c m r lo hi w1:=z1c.later (by first|exact hX.drew|exact hX) hb1;have hsz1:w.heap.size<=w1.heap.size:=hbw1.size;obtain⟨⟨m1,c01,c11,f01,f11⟩,n1,r01,r11,z01,z11⟩:=hX1;have hX1:z1c m r lo hi w1:=⟨⟨m1,c01,c11,f01,f11⟩,n1,r01,r11,z01,z11⟩)|(go_at_call 111;refine(z3z _ _ _ _ _).mono ?_;rintro e w2 ⟨rfl,hb2⟩;have hbw2:Below w.heap.size w w2:=(by((refine Below.trans ?_ (hb2.mono ?_))<;>(first|exact hbw|exact hbw.drew|exact hbw1|exact hbw1.drew|exact hsz|exact hsz1)));have hX2:z1c m r lo hi w2:=z1c.later (by first|exact hX1|exact hX1.drew) hb2;have hsz2:w.heap.size<=w2.heap.size:=hbw2.size;obtain⟨⟨m2,c02,c12,f02,f12⟩,n2,r02,r12,z02,z12⟩:=hX2;have hX2:z1c m r lo hi w2:=⟨⟨m2,c02,c12,f02,f12⟩,n2,r02,r12,z02,z12⟩))
   all_goals exact⟨⟨1,_,_,Or.inr (Or.inl ⟨rfl,by rw[Hlo.out],by rw[Hhi.out]⟩),rfl,(hbw2.setCell hw1 _).setCell hw1 _,hX2.put hmr⟩,by simp[intOf]⟩
  ·have Hlo:Hid (_=_):=hlo
   have Hhi:Hid (_=_):=hhi;clear hlo hhi;go_wp2_with(first|(go_at_call 86;refine(z3c _ _).mono ?_;rintro e w1 ⟨rfl,hb1⟩;have hbw1:Below w.heap.size w w1:=(by((refine Below.trans ?_ (hb1.mono ?_))<;>(first|exact hbw|exact hbw.drew|exact hbw1|exact hbw1.drew|exact hsz|exact hsz1)));have hX1:z1c m r lo hi w1:=z1c.later (by first|exact hX.drew|exact hX) hb1;have hsz1:w.heap.size<=w1.heap.size:=hbw1.size;obtain⟨⟨m1,c01,c11,f01,f11⟩,n1,r01,r11,z01,z11⟩:=hX1;have hX1:z1c m r lo hi w1:=⟨⟨m1,c01,c11,f01,f11⟩,n1,r01,r11,z01,z11⟩)|(go_at_call 111;refine(z3z _ _ _ _ _).mono ?_;rintro e w2 ⟨rfl,hb2⟩;have hbw2:Below w.heap.size w w2:=(by((refine Below.trans ?_ (hb2.mono ?_))<;>(first|exact hbw|exact hbw.drew|exact hbw1|exact hbw1.drew|exact hsz|exact hsz1)));have hX2:z1c m r lo hi w2:=z1c.later (by first|exact hX1|exact hX1.drew) hb2;have hsz2:w.heap.size<=w2.heap.size:=hbw2.size;obtain⟨⟨m2,c02,c12,f02,f12⟩,n2,r02,r12,z02,z12⟩:=hX2;have hX2:z1c m r lo hi w2:=⟨⟨m2,c02,c12,f02,f12⟩,n2,r02,r12,z02,z12⟩));go_region_with (first|(go_at_call 86;refine(z3c _ _).mono ?_;rintro e w1 ⟨rfl,hb1⟩;have hbw1:Below w.heap.size w w1:=(by((refine Below.trans ?_ (hb1.mono ?_))<;>(first|exact hbw|exact hbw.drew|exact hbw1|exact hbw1.drew|exact hsz|exact hsz1)));have hX1:z1c m r lo hi w1:=z1c.later (by first|exact hX.drew|exact hX) hb1;have hsz1:w.heap.size<=w1.heap.size:=hbw1.size;obtain⟨⟨m1,c01,c11,f01,f11⟩,n1,r01,r11,z01,z11⟩:=hX1;have hX1:z1c m r lo hi w1:=⟨⟨m1,c01,c11,f01,f11⟩,n1,r01,r11,z01,z11⟩)|(go_at_call 111;refine(z3z _ _ _ _ _).mono ?_;rintro e w2 ⟨rfl,hb2⟩;have hbw2:Below w.heap.size w w2:=(by((refine Below.trans ?_ (hb2.mono ?_))<;>(first|exact hbw|exact hbw.drew|exact hbw1|exact hbw1.drew|exact hsz|exact hsz1)));have hX2:z1c m r lo hi w2:=z1c.later (by first|exact hX1|exact hX1.drew) hb2;have hsz2:w.heap.size<=w2.heap.size:=hbw2.size;obtain⟨⟨m2,c02,c12,f02,f12⟩,n2,r02,r12,z02,z12⟩:=hX2;have hX2:z1c m r lo hi w2:=⟨⟨m2,c02,c12,f02,f12⟩,n2,r02,r12,z02,z12⟩))
   all_goals go_wp2_with(first|(go_at_call 86;refine(z3c _ _).mono ?_;rintro e w1 ⟨rfl,hb1⟩;have hbw1:Below w.heap.size w w1:=(by((refine Below.trans ?_ (hb1.mono ?_))<;>(first|exact hbw|exact hbw.drew|exact hbw1|exact hbw1.drew|exact hsz|exact hsz1)));have hX1:z1c m r lo hi w1:=z1c.later (by first|exact hX.drew|exact hX) hb1;have hsz1:w.heap.size<=w1.heap.size:=hbw1.size;obtain⟨⟨m1,c01,c11,f01,f11⟩,n1,r01,r11,z01,z11⟩:=hX1;have hX1:z1c m r lo hi w1:=⟨⟨m1,c01,c11,f01,f11⟩,n1,r01,r11,z01,z11⟩)|(go_at_call 111;refine(z3z _ _ _ _ _).mono ?_;rintro e w2 ⟨rfl,hb2⟩;have hbw2:Below w.heap.size w w2:=(by((refine Below.trans ?_ (hb2.mono ?_))<;>(first|exact hbw|exact hbw.drew|exact hbw1|exact hbw1.drew|exact hsz|exact hsz1)));have hX2:z1c m r lo hi w2:=z1c.later (by first|exact hX1|exact hX1.drew) hb2;have hsz2:w.heap.size<=w2.heap.size:=hbw2.size;obtain⟨⟨m2,c02,c12,f02,f12⟩,n2,r02,r12,z02,z12⟩:=hX2;have hX2:z1c m r lo hi w2:=⟨⟨m2,c02,c12,f02,f12⟩,n2,r02,r12,z02,z12⟩))
   all_goals exact⟨⟨2,_,_,Or.inr (Or.inr (Or.inl ⟨rfl,by rw[Hlo.out],by rw[Hhi.out]⟩)),rfl,(hbw2.setCell hw1 _).setCell hw1 _,hX2.put hmr⟩,by simp[intOf]⟩
  ·have Hlo:Hid (_=_):=hlo
   have Hhi:Hid (_=_):=hhi;clear hlo hhi;go_wp2_with(first|(go_at_call 86;refine(z3c _ _).mono ?_;rintro e w1 ⟨rfl,hb1⟩;have hbw1:Below w.heap.size w w1:=(by((refine Below.trans ?_ (hb1.mono ?_))<;>(first|exact hbw|exact hbw.drew|exact hbw1|exact hbw1.drew|exact hsz|exact hsz1)));have hX1:z1c m r lo hi w1:=z1c.later (by first|exact hX.drew|exact hX) hb1;have hsz1:w.heap.size<=w1.heap.size:=hbw1.size;obtain⟨⟨m1,c01,c11,f01,f11⟩,n1,r01,r11,z01,z11⟩:=hX1;have hX1:z1c m r lo hi w1:=⟨⟨m1,c01,c11,f01,f11⟩,n1,r01,r11,z01,z11⟩)|(go_at_call 111;refine(z3z _ _ _ _ _).mono ?_;rintro e w2 ⟨rfl,hb2⟩;have hbw2:Below w.heap.size w w2:=(by((refine Below.trans ?_ (hb2.mono ?_))<;>(first|exact hbw|exact hbw.drew|exact hbw1|exact hbw1.drew|exact hsz|exact hsz1)));have hX2:z1c m r lo hi w2:=z1c.later (by first|exact hX1|exact hX1.drew) hb2;have hsz2:w.heap.size<=w2.heap.size:=hbw2.size;obtain⟨⟨m2,c02,c12,f02,f12⟩,n2,r02,r12,z02,z12⟩:=hX2;have hX2:z1c m r lo hi w2:=⟨⟨m2,c02,c12,f02,f12⟩,n2,r02,r12,z02,z12⟩));go_region_with (first|(go_at_call 86;refine(z3c _ _).mono ?_;rintro e w1 ⟨rfl,hb1⟩;have hbw1:Below w.heap.size w w1:=(by((refine Below.trans ?_ (hb1.mono ?_))<;>(first|exact hbw|exact hbw.drew|exact hbw1|exact hbw1.drew|exact hsz|exact hsz1)));have hX1:z1c m r lo hi w1:=z1c.later (by first|exact hX.drew|exact hX) hb1;have hsz1:w.heap.size<=w1.heap.size:=hbw1.size;obtain⟨⟨m1,c01,c11,f01,f11⟩,n1,r01,r11,z01,z11⟩:=hX1;have hX1:z1c m r lo hi w1:=⟨⟨m1,c01,c11,f01,f11⟩,n1,r01,r11,z01,z11⟩)|(go_at_call 111;refine(z3z _ _ _ _ _).mono ?_;rintro e w2 ⟨rfl,hb2⟩;have hbw2:Below w.heap.size w w2:=(by((refine Below.trans ?_ (hb2.mono ?_))<;>(first|exact hbw|exact hbw.drew|exact hbw1|exact hbw1.drew|exact hsz|exact hsz1)));have hX2:z1c m r lo hi w2:=z1c.later (by first|exact hX1|exact hX1.drew) hb2;have hsz2:w.heap.size<=w2.heap.size:=hbw2.size;obtain⟨⟨m2,c02,c12,f02,f12⟩,n2,r02,r12,z02,z12⟩:=hX2;have hX2:z1c m r lo hi w2:=⟨⟨m2,c02,c12,f02,f12⟩,n2,r02,r12,z02,z12⟩))
   all_goals go_wp2_with(first|(go_at_call 86;refine(z3c _ _).mono ?_;rintro e w1 ⟨rfl,hb1⟩;have hbw1:Below w.heap.size w w1:=(by((refine Below.trans ?_ (hb1.mono ?_))<;>(first|exact hbw|exact hbw.drew|exact hbw1|exact hbw1.drew|exact hsz|exact hsz1)));have hX1:z1c m r lo hi w1:=z1c.later (by first|exact hX.drew|exact hX) hb1;have hsz1:w.heap.size<=w1.heap.size:=hbw1.size;obtain⟨⟨m1,c01,c11,f01,f11⟩,n1,r01,r11,z01,z11⟩:=hX1;have hX1:z1c m r lo hi w1:=⟨⟨m1,c01,c11,f01,f11⟩,n1,r01,r11,z01,z11⟩)|(go_at_call 111;refine(z3z _ _ _ _ _).mono ?_;rintro e w2 ⟨rfl,hb2⟩;have hbw2:Below w.heap.size w w2:=(by((refine Below.trans ?_ (hb2.mono ?_))<;>(first|exact hbw|exact hbw.drew|exact hbw1|exact hbw1.drew|exact hsz|exact hsz1)));have hX2:z1c m r lo hi w2:=z1c.later (by first|exact hX1|exact hX1.drew) hb2;have hsz2:w.heap.size<=w2.heap.size:=hbw2.size;obtain⟨⟨m2,c02,c12,f02,f12⟩,n2,r02,r12,z02,z12⟩:=hX2;have hX2:z1c m r lo hi w2:=⟨⟨m2,c02,c12,f02,f12⟩,n2,r02,r12,z02,z12⟩))
   all_goals exact⟨⟨3,_,_,Or.inr (Or.inr (Or.inr ⟨rfl,by rw[Hlo.out],by rw[Hhi.out]⟩)),rfl,(hbw2.setCell hw1 _).setCell hw1 _,hX2.put hmr⟩,by simp[intOf]⟩
  ·go_wp2_with(first|(go_at_call 86;refine(z3c _ _).mono ?_;rintro e w1 ⟨rfl,hb1⟩;have hbw1:Below w.heap.size w w1:=(by((refine Below.trans ?_ (hb1.mono ?_))<;>(first|exact hbw|exact hbw.drew|exact hbw1|exact hbw1.drew|exact hsz|exact hsz1)));have hX1:z1c m r lo hi w1:=z1c.later (by first|exact hX.drew|exact hX) hb1;have hsz1:w.heap.size<=w1.heap.size:=hbw1.size;obtain⟨⟨m1,c01,c11,f01,f11⟩,n1,r01,r11,z01,z11⟩:=hX1;have hX1:z1c m r lo hi w1:=⟨⟨m1,c01,c11,f01,f11⟩,n1,r01,r11,z01,z11⟩)|(go_at_call 111;refine(z3z _ _ _ _ _).mono ?_;rintro e w2 ⟨rfl,hb2⟩;have hbw2:Below w.heap.size w w2:=(by((refine Below.trans ?_ (hb2.mono ?_))<;>(first|exact hbw|exact hbw.drew|exact hbw1|exact hbw1.drew|exact hsz|exact hsz1)));have hX2:z1c m r lo hi w2:=z1c.later (by first|exact hX1|exact hX1.drew) hb2;have hsz2:w.heap.size<=w2.heap.size:=hbw2.size;obtain⟨⟨m2,c02,c12,f02,f12⟩,n2,r02,r12,z02,z12⟩:=hX2;have hX2:z1c m r lo hi w2:=⟨⟨m2,c02,c12,f02,f12⟩,n2,r02,r12,z02,z12⟩))
   exact bodyPost_ret (v:= .agg #[A B (min (min (min (wrap64 (al*bl)) (wrap64 (al*bh))) (wrap64 (ah*bl))) (wrap64 (ah*bh))),A B (max (max (max (wrap64 (al*bl)) (wrap64 (al*bh))) (wrap64 (ah*bl))) (wrap64 (ah*bh)))]) (by simp[results,Tryz.results81,go_sem,r0,r1]) rfl ⟨rfl,(hbw.setCell hw2 _).setCell hw2 _⟩
theorem zLd(n:Int)(w:World):Calls tP 113 #[.agg #[A B (-2147483648),A B 2147483648],A B n] w fun e w'=>e= rT (.bool (z2t n))/\w'=w.alloc (cT #[A B (-2147483648),A B 2147483648] 84):=by
 unfold z2t
 by_cases h1: -2147483648<=n
 ·go_enter Tryz.func113,Tryz.ntmps113
  go_wp2;go_ret;exact⟨z1a (by simp[h1]),rfl⟩
 have h2:decide (-2147483648<=n)=false:=by simpa using h1
 rw[h2,Bool.false_and];go_enter Tryz.func113,Tryz.ntmps113;go_wp2;go_ret;exact⟨rfl,rfl⟩
theorem zA4(al ah bl bh:Int):(∀(h0:z2t al=false)(w:World),zR 81 #[.agg #[A B al,A B ah],.agg #[A B bl,A B bh]] w (.agg #[A B (-9223372036854775808),A B 9223372036854775807]))/\(∀(h0:z2t al=true)(h1:z2t ah=true)(h2:z2t bl=true)(h3:z2t bh=false)(w:World),zR 81 #[.agg #[A B al,A B ah],.agg #[A B bl,A B bh]] w (.agg #[A B (-9223372036854775808),A B 9223372036854775807]))/\(∀(h0:z2t al=true)(h1:z2t ah=true)(h2:z2t bl=false)(w:World),zR 81 #[.agg #[A B al,A B ah],.agg #[A B bl,A B bh]] w (.agg #[A B (-9223372036854775808),A B 9223372036854775807]))/\(∀(h0:z2t al=true)(h1:z2t ah=false)(w:World),zR 81 #[.agg #[A B al,A B ah],.agg #[A B bl,A B bh]] w (.agg #[A B (-9223372036854775808),A B 9223372036854775807])):=by
 refine⟨?_,?_,?_,?_⟩;intro h0 w;rotate_left;intro h0 h1 h2 h3 w;rotate_left;intro h0 h1 h2 w;rotate_left;intro h0 h1 w;rotate_left
 all_goals
  have i40:=q48 al ah bl bh;have i41:=q47 al ah bl bh;have i42:=q46 al ah bl bh;have i43:=q45 al ah bl bh
 all_goals
  go_enter Tryz.func81,Tryz.ntmps81;go_wp2_with(first|(go_at_call 113;refine(zLd _ _).mono ?_;rintro e w' ⟨rfl,rfl⟩)|(go_at_call 89;refine(z3l _).mono ?_;rintro e w1 ⟨rfl,hb1⟩;obtain⟨hcl1,hfr1⟩:=z0h hb1;have hs1:=hb1.size;(try simp only[z05]at hs1);(try simp at hs1);have hbw1:Below w.heap.size w w1:=kT hb1));refine wp_loop_rounds 5 ?_
  repeat any_goals(rw[rounds_succ];go_wp2_with(first|(go_at_call 113;refine(zLd _ _).mono ?_;rintro e w' ⟨rfl,rfl⟩)|(go_at_call 89;refine(z3l _).mono ?_;rintro e w1 ⟨rfl,hb1⟩;obtain⟨hcl1,hfr1⟩:=z0h hb1;have hs1:=hb1.size;(try simp only[z05]at hs1);(try simp at hs1);have hbw1:Below w.heap.size w w1:=kT hb1)))
  all_goals exact bodyPost_ret (v:= .agg #[A B (-9223372036854775808),A B 9223372036854775807]) (by simp[results,Tryz.results81,go_sem,hcl1]) rfl ⟨rfl,kB⟩
def zNr:=fun al ah bl bh=>(@zA4 al ah bl bh).1
def zNo:=fun al ah bl bh=>(@zA4 al ah bl bh).2.1
def zNp:=fun al ah bl bh=>(@zA4 al ah bl bh).2.2.1
def zNq:=fun al ah bl bh=>(@zA4 al ah bl bh).2.2.2
theorem zSo(al ah bl bh:Int)(w:World):zR 81 #[.agg #[A B al,A B ah],.agg #[A B bl,A B bh]] w (.agg #[A B ((bdV 4 al ah bl bh).1),A B ((bdV 4 al ah bl bh).2)]):=by
 rw[q3d]
 cases h0:z2t al
 ·exact zNr al ah bl bh h0 w
 cases h1:z2t ah
 ·exact zNq al ah bl bh h0 h1 w
 cases h2:z2t bl
 ·exact zNp al ah bl bh h0 h1 h2 w
 cases h3:z2t bh
 ·exact zNo al ah bl bh h0 h1 h2 h3 w
 have k0:=(z4d _).1 h0;have k1:=(z4d _).1 h1;have k2:=(z4d _).1 h2;have k3:=(z4d _).1 h3;have e:=zNn al ah bl bh k0.1 k0.2 k1.1 k1.2 k2.1 k2.2 k3.1 k3.2 w;rw[z4c h0 h2,z4c h0 h3,z4c h1 h2,z4c h1 h3]at e;exact e
theorem bdo_1(al ah bl bh:Int)(w:World):zR 50 #[A B 1,.agg #[A B al,A B ah],.agg #[A B bl,A B bh]] w (.agg #[A B bl,A B bh]):=by
 go_enter Tryz.func50,Tryz.ntmps50;go_wp2_with fail
 all_goals exact bodyPost_ret (v:= .agg #[A B bl,A B bh]) (by simp[results,Tryz.results50,go_sem]) rfl ⟨rfl,kB⟩
theorem zEe(al ah bl bh:Int)(pal: -9223372036854775808<=al)(qal:al<=9223372036854775807)(pah: -9223372036854775808<=ah)(qah:ah<=9223372036854775807):(∀(pbl: -9223372036854775808<=bl)(qbl:bl<=9223372036854775807)(pbh: -9223372036854775808<=bh)(qbh:bh<=9223372036854775807)(w:World),zR 50 #[A B 2,.agg #[A B al,A B ah],.agg #[A B bl,A B bh]] w (.agg #[A B ((fit2 (al+bl) (ah+bh)).1),A B ((fit2 (al+bl) (ah+bh)).2)]))/\(∀(w:World),zR 50 #[A B 13,.agg #[A B al,A B ah],.agg #[A B bl,A B bh]] w (.agg #[A B ((fit2 (-ah) (-al)).1),A B ((fit2 (-ah) (-al)).2)]))/\(∀(pbl: -9223372036854775808<=bl)(qbl:bl<=9223372036854775807)(pbh: -9223372036854775808<=bh)(qbh:bh<=9223372036854775807)(w:World),zR 50 #[A B 3,.agg #[A B al,A B ah],.agg #[A B bl,A B bh]] w (.agg #[A B ((fit2 (al-bh) (ah-bl)).1),A B ((fit2 (al-bh) (ah-bl)).2)])):=by
 refine⟨?_,?_,?_⟩;intro pbl qbl pbh qbh w;rotate_left;intro w;rotate_left;intro pbl qbl pbh qbh w;rotate_left
 all_goals
  go_enter Tryz.func50,Tryz.ntmps50;go_wp2_with fail;go_region_held3 (fun w'=>w'.cell? ⟨w.heap.size,0,none⟩=some (A B al)/\w'.cell? ⟨w.heap.size,1,none⟩=some (A B ah)/\w'.cell? ⟨w.heap.size+1,0,none⟩=some (A B bl)/\w'.cell? ⟨w.heap.size+1,1,none⟩=some (A B bh)) (first|(simp[go_sem];done)|(simp[go_sem, *];done)|go_keep) (first|(go_at_call 79;refine(zIc _ _ ?_ ?_ ?_ ?_ _).mono ?_;omega;omega;omega;omega;rintro e w' ⟨rfl,rfl⟩)|(go_at_call 80;refine(zCj _ _ ?_ ?_ ?_ ?_ _).mono ?_;omega;omega;omega;omega;rintro e w' ⟨rfl,rfl⟩)|(go_at_call 78;refine(z7d _ _ _).mono ?_;rintro e w1 ⟨rfl,hb1⟩;obtain⟨hcl1,hfr1⟩:=z0h hb1;have hs1:=hb1.size;(try simp only[z05]at hs1);(try simp at hs1);have hbw1:Below w.heap.size w w1:=kT hb1))
  all_goals go_wp2_with(first|(go_at_call 79;refine(zIc _ _ ?_ ?_ ?_ ?_ _).mono ?_;omega;omega;omega;omega;rintro e w' ⟨rfl,rfl⟩)|(go_at_call 80;refine(zCj _ _ ?_ ?_ ?_ ?_ _).mono ?_;omega;omega;omega;omega;rintro e w' ⟨rfl,rfl⟩)|(go_at_call 78;refine(z7d _ _ _).mono ?_;rintro e w1 ⟨rfl,hb1⟩;obtain⟨hcl1,hfr1⟩:=z0h hb1;have hs1:=hb1.size;(try simp only[z05]at hs1);(try simp at hs1);have hbw1:Below w.heap.size w w1:=kT hb1))
  all_goals exact bodyPost_ret (by simp[results,Tryz.results50,go_sem,hcl1]) rfl ⟨rfl,kB⟩
def bdo_2:=fun al ah bl bh pal qal pah qah=>(@zEe al ah bl bh pal qal pah qah).1
def q4i:=fun al ah bl bh pal qal pah qah=>(@zEe al ah bl bh pal qal pah qah).2.1
def bdo_3:=fun al ah bl bh pal qal pah qah=>(@zEe al ah bl bh pal qal pah qah).2.2
theorem bdo_4(al ah bl bh:Int)(w:World):zR 50 #[A B 4,.agg #[A B al,A B ah],.agg #[A B bl,A B bh]] w (.agg #[A B ((bdV 4 al ah bl bh).1),A B ((bdV 4 al ah bl bh).2)]):=by
 go_enter Tryz.func50,Tryz.ntmps50;go_wp2_with(first|(go_at_call 81;refine(zSo _ _ _ _ _).mono ?_;rintro e w1 ⟨rfl,hb1⟩;obtain⟨hcl1,hfr1⟩:=z0h hb1;have hs1:=hb1.size;(try simp only[z05]at hs1);(try simp at hs1);have hbw1:Below w.heap.size w w1:=kT hb1))
 all_goals exact bodyPost_ret (v:= .agg #[A B ((bdV 4 al ah bl bh).1),A B ((bdV 4 al ah bl bh).2)]) (by simp[results,Tryz.results50,go_sem,hcl1]) rfl ⟨rfl,kB⟩
theorem zNl(al ah bl bh:Int)(pal: -9223372036854775808<=al)(qal:al<=9223372036854775807)(pah: -9223372036854775808<=ah)(qah:ah<=9223372036854775807)(pbl: -9223372036854775808<=bl)(qbl:bl<=9223372036854775807)(pbh: -9223372036854775808<=bh)(qbh:bh<=9223372036854775807)(oa:al<=ah)(ob:bl<=bh)(w:World):zR 82 #[.agg #[A B al,A B ah],.agg #[A B bl,A B bh]] w (.agg #[A B ((bdV 5 al ah bl bh).1),A B ((bdV 5 al ah bl bh).2)]):=by
 rw[q6u]
 by_cases ha:0<=al
 ·by_cases hb:0<=bl
  ·rw[if_pos ⟨ha,hb⟩]
   by_cases hz:0<bl
   ·rw[if_pos hz, <-zCn ha qal kO qbh, <-zCn kO qah hz qbl]
    exact zG8 al ah bl bh ha hz qbh qbl pbh w
   ·rw[if_neg hz]
    exact zG7 al ah bl bh ha hb kO w
  ·rw[if_neg (fun h=>hb h.2)]
   exact zDf al ah bl bh ha kO w
 rw[if_neg (fun h=>ha h.1)];exact zDg al ah bl bh kO w
theorem q53(al ah bl bh:Int)(qbh:bh<=9223372036854775807)(ob:bl<=bh)(w:World):zR 83 #[.agg #[A B al,A B ah],.agg #[A B bl,A B bh]] w (.agg #[A B ((bdV 6 al ah bl bh).1),A B ((bdV 6 al ah bl bh).2)]):=by
 rw[q6t]
 by_cases ha:0<=al
 ·by_cases hb:0<=bl
  ·rw[if_pos ⟨ha,hb⟩]
   by_cases hz:0<bl
   ·rw[if_pos hz]
    exact rest_p al ah bl bh ha hz qbh ob w
   ·rw[if_neg hz]
    exact q3w al ah bl bh ha hb kO w
  ·rw[if_neg (fun h=>hb h.2)]
   exact zWb al ah bl bh ha kO w
 rw[if_neg (fun h=>ha h.1)];exact zWc al ah bl bh kO w
theorem zYo(al ah bl bh:Int)(w:World):zR 84 #[.agg #[A B al,A B ah],.agg #[A B bl,A B bh]] w (.agg #[A B ((bdV 7 al ah bl bh).1),A B ((bdV 7 al ah bl bh).2)]):=by
 rw[q3c]
 by_cases ha:0<=al
 ·rw[if_pos ha]
  by_cases hb:0<=bl
  ·rw[if_pos hb]
   exact zYk al ah bl bh ha hb w
  ·rw[if_neg hb]
   exact zYl al ah bl bh ha kO w
 rw[if_neg ha]
 by_cases hb:0<=bl
 ·rw[if_pos hb]
  exact zYm al ah bl bh kO hb w
 rw[if_neg hb];exact zYn al ah bl bh kO kO w
theorem bdo_5(al ah bl bh:Int)(pal: -9223372036854775808<=al)(qal:al<=9223372036854775807)(pah: -9223372036854775808<=ah)(qah:ah<=9223372036854775807)(pbl: -9223372036854775808<=bl)(qbl:bl<=9223372036854775807)(pbh: -9223372036854775808<=bh)(qbh:bh<=9223372036854775807)(oa:al<=ah)(ob:bl<=bh)(w:World):zR 50 #[A B 5,.agg #[A B al,A B ah],.agg #[A B bl,A B bh]] w (.agg #[A B ((bdV 5 al ah bl bh).1),A B ((bdV 5 al ah bl bh).2)]):=by
 go_enter Tryz.func50,Tryz.ntmps50;go_wp2_with(first|(go_at_call 82;refine(zNl _ _ _ _ pal qal pah qah pbl qbl pbh qbh oa ob _).mono ?_;rintro e w1 ⟨rfl,hb1⟩;obtain⟨hcl1,hfr1⟩:=z0h hb1;have hs1:=hb1.size;(try simp only[z05]at hs1);(try simp at hs1);have hbw1:Below w.heap.size w w1:=kT hb1))
 all_goals exact bodyPost_ret (v:= .agg #[A B ((bdV 5 al ah bl bh).1),A B ((bdV 5 al ah bl bh).2)]) (by simp[results,Tryz.results50,go_sem,hcl1]) rfl ⟨rfl,kB⟩
theorem bdo_6(al ah bl bh:Int)(qbh:bh<=9223372036854775807)(ob:bl<=bh)(w:World):zR 50 #[A B 6,.agg #[A B al,A B ah],.agg #[A B bl,A B bh]] w (.agg #[A B ((bdV 6 al ah bl bh).1),A B ((bdV 6 al ah bl bh).2)]):=by
 go_enter Tryz.func50,Tryz.ntmps50;go_wp2_with(first|(go_at_call 83;refine(q53 _ _ _ _ qbh ob _).mono ?_;rintro e w1 ⟨rfl,hb1⟩;obtain⟨hcl1,hfr1⟩:=z0h hb1;have hs1:=hb1.size;(try simp only[z05]at hs1);(try simp at hs1);have hbw1:Below w.heap.size w w1:=kT hb1))
 all_goals exact bodyPost_ret (v:= .agg #[A B ((bdV 6 al ah bl bh).1),A B ((bdV 6 al ah bl bh).2)]) (by simp[results,Tryz.results50,go_sem,hcl1]) rfl ⟨rfl,kB⟩
theorem bdo_7(al ah bl bh:Int)(w:World):zR 50 #[A B 7,.agg #[A B al,A B ah],.agg #[A B bl,A B bh]] w (.agg #[A B ((bdV 7 al ah bl bh).1),A B ((bdV 7 al ah bl bh).2)]):=by
 go_enter Tryz.func50,Tryz.ntmps50;go_wp2_with(first|(go_at_call 84;refine(zYo _ _ _ _ _).mono ?_;rintro e w1 ⟨rfl,hb1⟩;obtain⟨hcl1,hfr1⟩:=z0h hb1;have hs1:=hb1.size;(try simp only[z05]at hs1);(try simp at hs1);have hbw1:Below w.heap.size w w1:=kT hb1))
 all_goals exact bodyPost_ret (v:= .agg #[A B ((bdV 7 al ah bl bh).1),A B ((bdV 7 al ah bl bh).2)]) (by simp[results,Tryz.results50,go_sem,hcl1]) rfl ⟨rfl,kB⟩
theorem zYa(lo al ah bl bh:Int)(pal: -9223372036854775808<=al)(qal:al<=9223372036854775807)(pah: -9223372036854775808<=ah)(qah:ah<=9223372036854775807)(pbl: -9223372036854775808<=bl)(qbl:bl<=9223372036854775807)(pbh: -9223372036854775808<=bh)(qbh:bh<=9223372036854775807)(w:World):zR 85 #[A B lo,.agg #[A B al,A B ah],.agg #[A B bl,A B bh]] w (.agg #[A B (((if 0<=al/\0<=bl then(lo,z5t (max ah bh))else(-9223372036854775808,9223372036854775807):Int×Int)).1),A B (((if 0<=al/\0<=bl then(lo,z5t (max ah bh))else(-9223372036854775808,9223372036854775807):Int×Int)).2)]):=by
 by_cases ha:0<=al
 ·by_cases hb:0<=bl
  ·rw[if_pos ⟨ha,hb⟩]
   exact zY7 lo al ah bl bh ha hb kO kO w
  ·rw[if_neg (fun h=>hb h.2)]
   exact zY8 lo al ah bl bh ha kO w
 rw[if_neg (fun h=>ha h.1)];exact zY9 lo al ah bl bh kO w
def filV(lo al ah bl bh:Int):Int×Int:=if 0<=al/\0<=bl then(lo,z5t (max ah bh))else(-9223372036854775808,9223372036854775807)
theorem zYb(lo al ah bl bh:Int)(pal: -9223372036854775808<=al)(qal:al<=9223372036854775807)(pah: -9223372036854775808<=ah)(qah:ah<=9223372036854775807)(pbl: -9223372036854775808<=bl)(qbl:bl<=9223372036854775807)(pbh: -9223372036854775808<=bh)(qbh:bh<=9223372036854775807)(w:World):zR 85 #[A B lo,.agg #[A B al,A B ah],.agg #[A B bl,A B bh]] w (.agg #[A B ((filV lo al ah bl bh).1),A B ((filV lo al ah bl bh).2)]):=zYa lo al ah bl bh pal qal pah qah pbl qbl pbh qbh w
theorem zH2(al ah bl bh:Int)(pal: -9223372036854775808<=al)(qal:al<=9223372036854775807)(pah: -9223372036854775808<=ah)(qah:ah<=9223372036854775807)(pbl: -9223372036854775808<=bl)(qbl:bl<=9223372036854775807)(pbh: -9223372036854775808<=bh)(qbh:bh<=9223372036854775807)(w:World):(zR 50 #[A B 8,.agg #[A B al,A B ah],.agg #[A B bl,A B bh]] w (.agg #[A B ((filV (max al bl) al ah bl bh).1),A B ((filV (max al bl) al ah bl bh).2)]))/\(zR 50 #[A B 9,.agg #[A B al,A B ah],.agg #[A B bl,A B bh]] w (.agg #[A B ((filV 0 al ah bl bh).1),A B ((filV 0 al ah bl bh).2)])):=by
 refine⟨?_,?_⟩
 all_goals
  go_enter Tryz.func50,Tryz.ntmps50;go_wp2_with(first|(go_at_call 85;refine(zYb _ _ _ _ _ pal qal pah qah pbl qbl pbh qbh _).mono ?_;rintro e w1 ⟨rfl,hb1⟩;obtain⟨hcl1,hfr1⟩:=z0h hb1;have hs1:=hb1.size;(try simp only[z05]at hs1);(try simp at hs1);have hbw1:Below w.heap.size w w1:=kT hb1))
  all_goals exact bodyPost_ret (by simp[results,Tryz.results50,go_sem,hcl1]) rfl ⟨rfl,kB⟩
def bdo_8:=fun al ah bl bh pal qal pah qah pbl qbl pbh qbh w=>(@zH2 al ah bl bh pal qal pah qah pbl qbl pbh qbh w).1
def bdo_9:=fun al ah bl bh pal qal pah qah pbl qbl pbh qbh w=>(@zH2 al ah bl bh pal qal pah qah pbl qbl pbh qbh w).2
def shV(c al ah k:Int):Int×Int:=
 if c=10 then fit2 (al*2^k.toNat) (ah*2^k.toNat)else if c=11/\0<k/\al<0 then(0,z0u 11 (-1) k)else(z0u c al k,z0u c ah k)
def anyV(c al ah:Int):Int×Int:=
 if c=10 then(-9223372036854775808,9223372036854775807)else if 0<=al then(0,ah)else if c=11 then(-9223372036854775808,9223372036854775807)else if ah<0 then(al, -1)else(al,ah)
theorem z5i(c al ah k:Int)(hc:c=10\/c=11\/c=12)(h0:0<=k)(h1:k<64)(w:World):zR 87 #[A B c,.agg #[A B al,A B ah],A B k] w (.agg #[A B ((shV c al ah k).1),A B ((shV c al ah k).2)]):=by
 rcases hc with rfl|rfl|rfl
 ·exact zSc al ah k h0 h1 w
 ·by_cases hk:0<k
  ·by_cases ha:al<0
   ·have e:shV 11 al ah k=(0,z0u 11 (-1) k):=by unfold shV;rw[if_neg kD,if_pos ⟨rfl,hk,ha⟩]
    rw[e];exact zNa al ah k h0 h1 hk ha w
   ·have e:shV 11 al ah k=(z0u 11 al k,z0u 11 ah k):=by unfold shV;rw[if_neg kD,if_neg (fun h=>ha h.2.2)]
    rw[e];exact zN9 al ah k h0 h1 hk kO w
  ·have e:shV 11 al ah k=(z0u 11 al k,z0u 11 ah k):=by unfold shV;rw[if_neg kD,if_neg (fun h=>hk h.2.1)]
   rw[e];exact zN8 al ah k h0 h1 kO w
 exact zSb al ah k h0 h1 w
theorem zHo(c al ah:Int)(hc:c=10\/c=11\/c=12)(w:World):zR 88 #[A B c,.agg #[A B al,A B ah]] w (.agg #[A B ((anyV c al ah).1),A B ((anyV c al ah).2)]):=by
 by_cases h10:c=10
 ·subst h10
  exact any_10 al ah w
 by_cases ha:0<=al
 ·have e:anyV c al ah=(0,ah):=by unfold anyV;rw[if_neg h10,if_pos ha]
  rw[e];exact any_p c al ah kO ha w
 by_cases h11:c=11
 ·subst h11
  have e:anyV 11 al ah=(-9223372036854775808,9223372036854775807):=by unfold anyV;rw[if_neg kD,if_neg ha,if_pos rfl]
  rw[e];exact any_11 al ah kO w
 obtain rfl:c=12:=by omega
 by_cases hh:ah<0
 ·have e:anyV 12 al ah=(al, -1):=by unfold anyV;rw[if_neg kD,if_neg ha,if_neg kD,if_pos hh]
  rw[e];exact q73 al ah kO hh w
 have e:anyV 12 al ah=(al,ah):=by unfold anyV;rw[if_neg kD,if_neg ha,if_neg kD,if_neg hh]
 rw[e];exact any_12 al ah kO kO w
theorem zZu(al ah bl:Int)(w:World):zR 50 #[A B 10,.agg #[A B al,A B ah],.agg #[A B bl,A B bl]] w (.agg #[A B ((shV 10 al ah (bl%64)).1),A B ((shV 10 al ah (bl%64)).2)]):=by
 have hx:=zUk bl;go_enter Tryz.func50,Tryz.ntmps50;go_wp2_with fail;go_region_held3 (fun w'=>w'.cell? ⟨w.heap.size+1,0,none⟩=some (A B bl)/\w'.cell? ⟨w.heap.size+1,1,none⟩=some (A B bl)) (first|(simp[go_sem];done)|(simp[go_sem, *];done)|go_keep) (first|(go_at_call 86;refine(z2n _ _).mono ?_;rintro e w' ⟨rfl,rfl⟩)|(go_at_call 87;refine(z5i 10 _ _ _ kD (Int.emod_nonneg _ kD) (Int.emod_lt_of_pos _ kD) _).mono ?_;rintro e w1 ⟨rfl,hb1⟩;obtain⟨hcl1,hfr1⟩:=z0h hb1;have hs1:=hb1.size;(try simp only[z05]at hs1);(try simp at hs1);have hbw1:Below w.heap.size w w1:=kT hb1))
 all_goals go_wp2_with(first|(go_at_call 86;refine(z2n _ _).mono ?_;rintro e w' ⟨rfl,rfl⟩)|(go_at_call 87;refine(z5i 10 _ _ _ kD (Int.emod_nonneg _ kD) (Int.emod_lt_of_pos _ kD) _).mono ?_;rintro e w1 ⟨rfl,hb1⟩;obtain⟨hcl1,hfr1⟩:=z0h hb1;have hs1:=hb1.size;(try simp only[z05]at hs1);(try simp at hs1);have hbw1:Below w.heap.size w w1:=kT hb1))
 all_goals exact bodyPost_ret (v:= .agg #[A B ((shV 10 al ah (bl%64)).1),A B ((shV 10 al ah (bl%64)).2)]) (by simp[results,Tryz.results50,go_sem,hcl1]) rfl ⟨rfl,kB⟩
theorem zZt(al ah bl bh:Int)(hne: ¬bh=bl)(w:World):zR 50 #[A B 10,.agg #[A B al,A B ah],.agg #[A B bl,A B bh]] w (.agg #[A B ((anyV 10 al ah).1),A B ((anyV 10 al ah).2)]):=by
 go_enter Tryz.func50,Tryz.ntmps50;go_wp2_with fail;go_region_held3 (fun w'=>w'.cell? ⟨w.heap.size+1,0,none⟩=some (A B bl)/\w'.cell? ⟨w.heap.size+1,1,none⟩=some (A B bh)) (first|(simp[go_sem];done)|(simp[go_sem, *];done)|go_keep) (first|(go_at_call 86;refine(z2n _ _).mono ?_;rintro e w' ⟨rfl,rfl⟩)|(go_at_call 88;refine(zHo 10 _ _ kD _).mono ?_;rintro e w1 ⟨rfl,hb1⟩;obtain⟨hcl1,hfr1⟩:=z0h hb1;have hs1:=hb1.size;(try simp only[z05]at hs1);(try simp at hs1);have hbw1:Below w.heap.size w w1:=kT hb1))
 all_goals go_wp2_with(first|(go_at_call 86;refine(z2n _ _).mono ?_;rintro e w' ⟨rfl,rfl⟩)|(go_at_call 88;refine(zHo 10 _ _ kD _).mono ?_;rintro e w1 ⟨rfl,hb1⟩;obtain⟨hcl1,hfr1⟩:=z0h hb1;have hs1:=hb1.size;(try simp only[z05]at hs1);(try simp at hs1);have hbw1:Below w.heap.size w w1:=kT hb1))
 all_goals exact bodyPost_ret (v:= .agg #[A B ((anyV 10 al ah).1),A B ((anyV 10 al ah).2)]) (by simp[results,Tryz.results50,go_sem,hcl1]) rfl ⟨rfl,kB⟩
theorem zZs(al ah bl:Int)(w:World):zR 50 #[A B 11,.agg #[A B al,A B ah],.agg #[A B bl,A B bl]] w (.agg #[A B ((shV 11 al ah (bl%64)).1),A B ((shV 11 al ah (bl%64)).2)]):=by
 have hx:=zUk bl;go_enter Tryz.func50,Tryz.ntmps50;go_wp2_with fail;go_region_held3 (fun w'=>w'.cell? ⟨w.heap.size+1,0,none⟩=some (A B bl)/\w'.cell? ⟨w.heap.size+1,1,none⟩=some (A B bl)) (first|(simp[go_sem];done)|(simp[go_sem, *];done)|go_keep) (first|(go_at_call 86;refine(z2n _ _).mono ?_;rintro e w' ⟨rfl,rfl⟩)|(go_at_call 87;refine(z5i 11 _ _ _ kD (Int.emod_nonneg _ kD) (Int.emod_lt_of_pos _ kD) _).mono ?_;rintro e w1 ⟨rfl,hb1⟩;obtain⟨hcl1,hfr1⟩:=z0h hb1;have hs1:=hb1.size;(try simp only[z05]at hs1);(try simp at hs1);have hbw1:Below w.heap.size w w1:=kT hb1))
 all_goals go_wp2_with(first|(go_at_call 86;refine(z2n _ _).mono ?_;rintro e w' ⟨rfl,rfl⟩)|(go_at_call 87;refine(z5i 11 _ _ _ kD (Int.emod_nonneg _ kD) (Int.emod_lt_of_pos _ kD) _).mono ?_;rintro e w1 ⟨rfl,hb1⟩;obtain⟨hcl1,hfr1⟩:=z0h hb1;have hs1:=hb1.size;(try simp only[z05]at hs1);(try simp at hs1);have hbw1:Below w.heap.size w w1:=kT hb1))
 all_goals exact bodyPost_ret (v:= .agg #[A B ((shV 11 al ah (bl%64)).1),A B ((shV 11 al ah (bl%64)).2)]) (by simp[results,Tryz.results50,go_sem,hcl1]) rfl ⟨rfl,kB⟩
theorem zZr(al ah bl bh:Int)(hne: ¬bh=bl)(w:World):zR 50 #[A B 11,.agg #[A B al,A B ah],.agg #[A B bl,A B bh]] w (.agg #[A B ((anyV 11 al ah).1),A B ((anyV 11 al ah).2)]):=by
 go_enter Tryz.func50,Tryz.ntmps50;go_wp2_with fail;go_region_held3 (fun w'=>w'.cell? ⟨w.heap.size+1,0,none⟩=some (A B bl)/\w'.cell? ⟨w.heap.size+1,1,none⟩=some (A B bh)) (first|(simp[go_sem];done)|(simp[go_sem, *];done)|go_keep) (first|(go_at_call 86;refine(z2n _ _).mono ?_;rintro e w' ⟨rfl,rfl⟩)|(go_at_call 88;refine(zHo 11 _ _ kD _).mono ?_;rintro e w1 ⟨rfl,hb1⟩;obtain⟨hcl1,hfr1⟩:=z0h hb1;have hs1:=hb1.size;(try simp only[z05]at hs1);(try simp at hs1);have hbw1:Below w.heap.size w w1:=kT hb1))
 all_goals go_wp2_with(first|(go_at_call 86;refine(z2n _ _).mono ?_;rintro e w' ⟨rfl,rfl⟩)|(go_at_call 88;refine(zHo 11 _ _ kD _).mono ?_;rintro e w1 ⟨rfl,hb1⟩;obtain⟨hcl1,hfr1⟩:=z0h hb1;have hs1:=hb1.size;(try simp only[z05]at hs1);(try simp at hs1);have hbw1:Below w.heap.size w w1:=kT hb1))
 all_goals exact bodyPost_ret (v:= .agg #[A B ((anyV 11 al ah).1),A B ((anyV 11 al ah).2)]) (by simp[results,Tryz.results50,go_sem,hcl1]) rfl ⟨rfl,kB⟩
theorem zZq(al ah bl:Int)(w:World):zR 50 #[A B 12,.agg #[A B al,A B ah],.agg #[A B bl,A B bl]] w (.agg #[A B ((shV 12 al ah (bl%64)).1),A B ((shV 12 al ah (bl%64)).2)]):=by
 have hx:=zUk bl;go_enter Tryz.func50,Tryz.ntmps50;go_wp2_with fail;go_region_held3 (fun w'=>w'.cell? ⟨w.heap.size+1,0,none⟩=some (A B bl)/\w'.cell? ⟨w.heap.size+1,1,none⟩=some (A B bl)) (first|(simp[go_sem];done)|(simp[go_sem, *];done)|go_keep) (first|(go_at_call 86;refine(z2n _ _).mono ?_;rintro e w' ⟨rfl,rfl⟩)|(go_at_call 87;refine(z5i 12 _ _ _ kD (Int.emod_nonneg _ kD) (Int.emod_lt_of_pos _ kD) _).mono ?_;rintro e w1 ⟨rfl,hb1⟩;obtain⟨hcl1,hfr1⟩:=z0h hb1;have hs1:=hb1.size;(try simp only[z05]at hs1);(try simp at hs1);have hbw1:Below w.heap.size w w1:=kT hb1))
 all_goals go_wp2_with(first|(go_at_call 86;refine(z2n _ _).mono ?_;rintro e w' ⟨rfl,rfl⟩)|(go_at_call 87;refine(z5i 12 _ _ _ kD (Int.emod_nonneg _ kD) (Int.emod_lt_of_pos _ kD) _).mono ?_;rintro e w1 ⟨rfl,hb1⟩;obtain⟨hcl1,hfr1⟩:=z0h hb1;have hs1:=hb1.size;(try simp only[z05]at hs1);(try simp at hs1);have hbw1:Below w.heap.size w w1:=kT hb1))
 all_goals exact bodyPost_ret (v:= .agg #[A B ((shV 12 al ah (bl%64)).1),A B ((shV 12 al ah (bl%64)).2)]) (by simp[results,Tryz.results50,go_sem,hcl1]) rfl ⟨rfl,kB⟩
theorem zZp(al ah bl bh:Int)(hne: ¬bh=bl)(w:World):zR 50 #[A B 12,.agg #[A B al,A B ah],.agg #[A B bl,A B bh]] w (.agg #[A B ((anyV 12 al ah).1),A B ((anyV 12 al ah).2)]):=by
 go_enter Tryz.func50,Tryz.ntmps50;go_wp2_with fail;go_region_held3 (fun w'=>w'.cell? ⟨w.heap.size+1,0,none⟩=some (A B bl)/\w'.cell? ⟨w.heap.size+1,1,none⟩=some (A B bh)) (first|(simp[go_sem];done)|(simp[go_sem, *];done)|go_keep) (first|(go_at_call 86;refine(z2n _ _).mono ?_;rintro e w' ⟨rfl,rfl⟩)|(go_at_call 88;refine(zHo 12 _ _ kD _).mono ?_;rintro e w1 ⟨rfl,hb1⟩;obtain⟨hcl1,hfr1⟩:=z0h hb1;have hs1:=hb1.size;(try simp only[z05]at hs1);(try simp at hs1);have hbw1:Below w.heap.size w w1:=kT hb1))
 all_goals go_wp2_with(first|(go_at_call 86;refine(z2n _ _).mono ?_;rintro e w' ⟨rfl,rfl⟩)|(go_at_call 88;refine(zHo 12 _ _ kD _).mono ?_;rintro e w1 ⟨rfl,hb1⟩;obtain⟨hcl1,hfr1⟩:=z0h hb1;have hs1:=hb1.size;(try simp only[z05]at hs1);(try simp at hs1);have hbw1:Below w.heap.size w w1:=kT hb1))
 all_goals exact bodyPost_ret (v:= .agg #[A B ((anyV 12 al ah).1),A B ((anyV 12 al ah).2)]) (by simp[results,Tryz.results50,go_sem,hcl1]) rfl ⟨rfl,kB⟩
theorem q4h(k al ah bl bh:Int)(hk:k<1\/13<k)(w:World):zR 50 #[A B k,.agg #[A B al,A B ah],.agg #[A B bl,A B bh]] w (.agg #[A B (-9223372036854775808),A B 9223372036854775807]):=by
 have e1:(k==1)=false:=kZ;have e2:(k==2)=false:=kZ;have e3:(k==3)=false:=kZ;have e4:(k==4)=false:=kZ;have e5:(k==5)=false:=kZ;have e6:(k==6)=false:=kZ;have e7:(k==7)=false:=kZ;have e8:(k==8)=false:=kZ;have e9:(k==9)=false:=kZ;have e10:(k==10)=false:=kZ;have e11:(k==11)=false:=kZ;have e12:(k==12)=false:=kZ;have e13:(k==13)=false:=kZ;go_enter Tryz.func50,Tryz.ntmps50;go_wp2_with(first|(go_at_call 89;refine(z3l _).mono ?_;rintro e w1 ⟨rfl,hb1⟩;obtain⟨hcl1,hfr1⟩:=z0h hb1;have hs1:=hb1.size;(try simp only[z05]at hs1);(try simp at hs1);have hbw1:Below w.heap.size w w1:=kT hb1))
 all_goals exact bodyPost_ret (v:= .agg #[A B (-9223372036854775808),A B 9223372036854775807]) (by simp[results,Tryz.results50,go_sem,hcl1]) rfl ⟨rfl,kB⟩
theorem zZo(k al ah bl bh:Int)(pal: -9223372036854775808<=al)(qal:al<=9223372036854775807)(pah: -9223372036854775808<=ah)(qah:ah<=9223372036854775807)(pbl: -9223372036854775808<=bl)(qbl:bl<=9223372036854775807)(pbh: -9223372036854775808<=bh)(qbh:bh<=9223372036854775807)(oa:al<=ah)(ob:bl<=bh)(w:World):zR 50 #[A B k,.agg #[A B al,A B ah],.agg #[A B bl,A B bh]] w (.agg #[A B ((bdV k al ah bl bh).1),A B ((bdV k al ah bl bh).2)]):=by
 by_cases hk:k<1\/13<k
 ·rw[bdV_no al ah bl bh hk]
  exact q4h k al ah bl bh hk w
 have h:k=1\/k=2\/k=3\/k=4\/k=5\/k=6\/k=7\/k=8\/k=9\/k=10\/k=11\/k=12\/k=13:=kO;have s6:=zN7 bl;rcases h with rfl|rfl|rfl|rfl|rfl|rfl|rfl|rfl|rfl|rfl|rfl|rfl|rfl
 ·rw[q6x];exact bdo_1 al ah bl bh w
 ·rw[q6w];exact bdo_2 al ah bl bh pal qal pah qah pbl qbl pbh qbh w
 ·rw[q6v];exact bdo_3 al ah bl bh pal qal pah qah pbl qbl pbh qbh w
 ·exact bdo_4 al ah bl bh w
 ·exact bdo_5 al ah bl bh pal qal pah qah pbl qbl pbh qbh oa ob w
 ·exact bdo_6 al ah bl bh qbh ob w
 ·exact bdo_7 al ah bl bh w
 ·rw[q6s];exact bdo_8 al ah bl bh pal qal pah qah pbl qbl pbh qbh w
 ·rw[q6r];exact bdo_9 al ah bl bh pal qal pah qah pbl qbl pbh qbh w
 ·rw[zZy]
  by_cases hb:bl=bh
  ·rw[if_pos hb]
   subst hb;exact zZu al ah bl w
  ·rw[if_neg hb]
   exact zZt al ah bl bh (fun h=>hb h.symm) w
 ·rw[zZx]
  by_cases hb:bl=bh
  ·rw[if_pos hb]
   subst hb
   have e:shV 11 al ah (bl%64)=(if sixBits bl=0 then(al,ah)else if 0<=al then(al/2^sixBits bl,ah/2^sixBits bl)else(0,2^(64-sixBits bl)-1)):=by
    unfold shV;rw[if_neg kD]
    by_cases h0:sixBits bl=0
    ·rw[if_pos h0,if_neg (by have:(bl%64).toNat=0:=h0;omega),zI6 pal qal kO,zI6 pah qah kO]
    ·rw[if_neg h0]
     have h0':(bl%64).toNat≠0:=h0
     by_cases ha:0<=al
     ·rw[if_pos ha,if_neg kO,zCd ha qal,zCd kO qah,s6]
     ·rw[if_neg ha,if_pos ⟨rfl,by omega,by omega⟩,zQ1 kO,s6]
   rw[<-e];exact zZs al ah bl w
  ·rw[if_neg hb]
   exact zZr al ah bl bh (fun h=>hb h.symm) w
 ·rw[zZw]
  by_cases hb:bl=bh
  ·rw[if_pos hb]
   subst hb
   have e:shV 12 al ah (bl%64)=(al/2^sixBits bl,ah/2^sixBits bl):=by
    unfold shV;rw[if_neg kD,if_neg kO,zA6,zA6,s6]
   rw[<-e];exact zZq al ah bl w
  ·rw[if_neg hb]
   exact zZp al ah bl bh (fun h=>hb h.symm) w
 rw[zZv];exact q4i al ah bl bh pal qal pah qah w
end Go.Proofs.YtkdflpplamebkaaGreatDoor
