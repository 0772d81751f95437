/-
A part of the proof of DeskPieces; its card says what is proved.
-/
import Derived.Test.YtkdflpplamebkaaGreatDoorJp42
set_option maxHeartbeats 40000000
open Go.Value renaming int → E
open Go.IntKind renaming i64 → G
set_option maxRecDepth 1000000
set_option linter.defProp false
set_option linter.unusedVariables false
set_option linter.unusedSimpArgs false
open Go.Ending renaming returned → rT
open Go.Value renaming pointer → pT
open Go.Proofs.Tryz renaming prog → tP
namespace Go.Proofs.YtkdflpplamebkaaGreatDoor
section
open Go.ChangeShapes Go.WideShapes Go.ChangeAt Go.RowKit Go.Shelf
variable {ex:Ext}
def q5w:ByteArray:=⟨#[104,101,108,112]⟩
theorem zQo(S:Nat):Instr.findNow .string (.string q5w) (z07 S 13).toList 0=some (some (6,.agg #[E G ((0:Nat):Int),.bool false,.func (.func 21) #[pT (some ⟨S,0,none⟩)] #[]])):=kR
def q02:ByteArray:=⟨#[97,116,116,97,99,104]⟩
theorem zHm(S:Nat):Instr.findNow .string (.string q02) (z07 S 13).toList 0=some (some (0,.agg #[E G ((2:Nat):Int),.bool true,.func (.func 15) #[pT (some ⟨S,0,none⟩)] #[]])):=kR
def cellsW:ByteArray:=⟨#[99,101,108,108,115]⟩
theorem zYx(S:Nat):Instr.findNow .string (.string cellsW) (z07 S 13).toList 0=some (some (1,.agg #[E G ((2:Nat):Int),.bool false,.func (.func 16) #[pT (some ⟨S,0,none⟩)] #[]])):=kR
def q4f:ByteArray:=⟨#[99,104,101,99,107]⟩
theorem zMa(S:Nat):Instr.findNow .string (.string q4f) (z07 S 13).toList 0=some (some (2,.agg #[E G ((0:Nat):Int),.bool true,.func (.func 17) #[pT (some ⟨S,0,none⟩)] #[]])):=kR
def q6h:ByteArray:=⟨#[100,101,116,97,99,104]⟩
theorem zU3(S:Nat):Instr.findNow .string (.string q6h) (z07 S 13).toList 0=some (some (3,.agg #[E G ((2:Nat):Int),.bool false,.func (.func 18) #[pT (some ⟨S,0,none⟩)] #[]])):=kR
def doesW:ByteArray:=⟨#[100,111,101,115]⟩
theorem q2t(S:Nat):Instr.findNow .string (.string doesW) (z07 S 13).toList 0=some (some (4,.agg #[E G ((5:Nat):Int),.bool false,.func (.func 19) #[pT (some ⟨S,0,none⟩)] #[]])):=kR
def eventW:ByteArray:=⟨#[101,118,101,110,116]⟩
theorem zYg(S:Nat):Instr.findNow .string (.string eventW) (z07 S 13).toList 0=some (some (5,.agg #[E G ((3:Nat):Int),.bool false,.func (.func 20) #[pT (some ⟨S,0,none⟩)] #[]])):=kR
def newW:ByteArray:=⟨#[110,101,119]⟩
theorem q5f(S:Nat):Instr.findNow .string (.string newW) (z07 S 13).toList 0=some (some (7,.agg #[E G ((3:Nat):Int),.bool false,.func (.func 14) #[pT (some ⟨S,0,none⟩)] #[]])):=kR
def zWi:ByteArray:=⟨#[112,114,111,103,114,97,109,115]⟩
theorem zKg(S:Nat):Instr.findNow .string (.string zWi) (z07 S 13).toList 0=some (some (8,.agg #[E G ((1:Nat):Int),.bool false,.func (.func 22) #[pT (some ⟨S,0,none⟩)] #[]])):=kR
def q1c:ByteArray:=⟨#[114,101,112,108,97,99,101]⟩
theorem zNj(S:Nat):Instr.findNow .string (.string q1c) (z07 S 13).toList 0=some (some (9,.agg #[E G ((2:Nat):Int),.bool true,.func (.func 23) #[pT (some ⟨S,0,none⟩)] #[]])):=kR
def roundW:ByteArray:=⟨#[114,111,117,110,100]⟩
theorem zWa(S:Nat):Instr.findNow .string (.string roundW) (z07 S 13).toList 0=some (some (10,.agg #[E G ((0:Nat):Int),.bool false,.func (.func 24) #[pT (some ⟨S,0,none⟩)] #[]])):=kR
def runW:ByteArray:=⟨#[114,117,110]⟩
theorem q52(S:Nat):Instr.findNow .string (.string runW) (z07 S 13).toList 0=some (some (11,.agg #[E G ((1:Nat):Int),.bool true,.func (.func 25) #[pT (some ⟨S,0,none⟩)] #[]])):=kR
def stateW:ByteArray:=⟨#[115,116,97,116,101]⟩
theorem zVu(S:Nat):Instr.findNow .string (.string stateW) (z07 S 13).toList 0=some (some (12,.agg #[E G ((1:Nat):Int),.bool false,.func (.func 26) #[pT (some ⟨S,0,none⟩)] #[]])):=kR
theorem line_help{d:Dsk}{M:Int}{S B m:Nat}{t:ByteArray}{W:World}(hT:Tabs ex W)(h:z4k d M S W)(hS:Boxed W S 47 (pT (some ⟨B,0,none⟩)))(hm:W.heap[m]?=some (.map (z07 S 13) 13))(ht:t.size<=100000)(hw:z1f t=[q5w]):Calls tP 11 #[.string t,.map (some m)] W fun e w'=>e= rT (.string q2j)/\z2r S B W w'/\z6f d (M+61) S B W.heap.size w':=by
 obtain⟨-,dd,hD, -⟩:=z8b h hS;refine zBh t m W hT (x:=q5w) (rest:=[]) (fun W' _=>z6s hw kO W') hm 0 false _ S (zQo S) (fun _ _=>by kernel_rfl) hS.lt B hD.at_.lt (xs:=[]) (fun W' A ao hb hT' hs=>z8i 0 false _ A ao 0 [] W' ⟨Nat.le_refl _,Or.inl (Nat.le_refl _),Nat.le_refl _,by decide⟩ hs hT' (m:=0) rfl ⟨Nat.le_refl _,rfl,fun i hi=>absurd hi kO,fun x hx=>by cases hx⟩ (show([]:List ByteArray).length<=100000 by decide)) (z6f d (M+61) S B W.heap.size) (fun W1 W2 r v q _ hr hk=>z71 q hr hk) (fun W' a c hb hT' _ _=>(zXv S a _ c _ W').mono ?_);rintro e w' ⟨rfl,hb'⟩;exact⟨rfl,z2r.of_below hb',z4q (z5o h hb) ((hb.block S hS.lt).trans hS) hb' kO,hT'.on hb' hT'.room⟩
theorem line_calm{d:Dsk}{M:Int}{S B m:Nat}{t x:ByteArray}{rest:List ByteArray}{W:World}(hT:Tabs ex W)(h:z4k d M S W)(hS:Boxed W S 47 (pT (some ⟨B,0,none⟩)))(hm:W.heap[m]?=some (.map (z07 S 13) 13))(ht:t.size<=100000)(hw:z1f t=x::rest)(n:Nat)(p:Bool)(F:Nat){i:Nat}(HF:Instr.findNow .string (.string x) (z07 S 13).toList 0=some (some (i,.agg #[E G (n:Int),.bool p,.func (.func F) #[pT (some ⟨S,0,none⟩)] #[]])))(eg: ∀args w,(callFunc F args).run tP w= .ok (.enter F args) w)(h1:n<=rest.length)(h2:rest.length<=n\/p=true)(h3:n<=5){xs:List Int}(h4:xs.length=n)(h5: ∀i,i<n->z2y (rest.getD i z2i)=some (xs.getD i 0))(h6: ∀y,y∈rest->y.size<=100000)(h7:rest.length<=100000){b:ByteArray}
  (HME: ∀W' a c,Below W.heap.size W W'->Tabs ex W'->z4k d M S W'->Boxed W' S 47 (pT (some ⟨B,0,none⟩))->z19 W' a xs->Calls tP F #[pT (some ⟨S,0,none⟩),.agg #[.slice a xs.length c,.string (z5b (rest.drop n) z35)]] W' fun e w'=>e= rT (.string b)/\Below W'.heap.size W' w'):Calls tP 11 #[.string t,.map (some m)] W fun e w'=>e= rT (.string b)/\z2r S B W w'/\z6f d (M+61) S B W.heap.size w':=by
 obtain⟨-,dd,hD, -⟩:=z8b h hS;refine zBh t m W hT (x:=x) (rest:=rest) (fun W' _=>z6s hw kO W') hm n p F S HF eg hS.lt B hD.at_.lt (xs:=xs) (fun W' A ao hb hT' hs=>z8i n p _ A ao rest.length rest W' ⟨h1,h2,Nat.le_refl _,h3⟩ hs hT' (m:=n) rfl ⟨Nat.le_refl _,h4,h5,h6⟩ h7) (z6f d (M+61) S B W.heap.size) (fun W1 W2 r v q _ hr hk=>z71 q hr hk) (fun W' a c hb hT' hx _=>(HME W' a c hb hT' (z5o h hb) ((hb.block S hS.lt).trans hS) hx).mono ?_);rintro e w' ⟨rfl,hb'⟩;exact⟨rfl,z2r.of_below hb',z4q (z5o h hb) ((hb.block S hS.lt).trans hS) hb' kO,hT'.on hb' hT'.room⟩
theorem q21{d d':Dsk}{M:Int}{S B m:Nat}{t x:ByteArray}{rest:List ByteArray}{W:World}(hT:Tabs ex W)(h:z4k d M S W)(hS:Boxed W S 47 (pT (some ⟨B,0,none⟩)))(hm:W.heap[m]?=some (.map (z07 S 13) 13))(ht:t.size<=100000)(hw:z1f t=x::rest)(n:Nat)(p:Bool)(F:Nat){i:Nat}(HF:Instr.findNow .string (.string x) (z07 S 13).toList 0=some (some (i,.agg #[E G (n:Int),.bool p,.func (.func F) #[pT (some ⟨S,0,none⟩)] #[]])))(eg: ∀args w,(callFunc F args).run tP w= .ok (.enter F args) w)(h1:n<=rest.length)(h2:rest.length<=n\/p=true)(h3:n<=5){xs:List Int}(h4:xs.length=n)(h5: ∀i,i<n->z2y (rest.getD i z2i)=some (xs.getD i 0))(h6: ∀y,y∈rest->y.size<=100000)(h7:rest.length<=100000){b:ByteArray}
  (HME: ∀W' a c,Below W.heap.size W W'->Tabs ex W'->z4k d M S W'->Boxed W' S 47 (pT (some ⟨B,0,none⟩))->z19 W' a xs->(∀q,a=some q->W.heap.size<=q.block)->Calls tP F #[pT (some ⟨S,0,none⟩),.agg #[.slice a xs.length c,.string (z5b (rest.drop n) z35)]] W' fun e w'=>e= rT (.string b)/\z2r S B W' w'/\z6f d' (M+61) S B W.heap.size w'/\Tabs ex w'):Calls tP 11 #[.string t,.map (some m)] W fun e w'=>e= rT (.string b)/\z2r S B W w'/\z6f d' (M+61) S B W.heap.size w':=by
 obtain⟨-,dd,hD, -⟩:=z8b h hS;exact zBh t m W hT (x:=x) (rest:=rest) (fun W' _=>z6s hw kO W') hm n p F S HF eg hS.lt B hD.at_.lt (xs:=xs) (fun W' A ao hb hT' hs=>z8i n p _ A ao rest.length rest W' ⟨h1,h2,Nat.le_refl _,h3⟩ hs hT' (m:=n) rfl ⟨Nat.le_refl _,h4,h5,h6⟩ h7) (z6f d' (M+61) S B W.heap.size) (fun W1 W2 r v q _ hr hk=>z71 q hr hk) (fun W' a c hb hT' hx hq=>HME W' a c hb hT' (z5o h hb) ((hb.block S hS.lt).trans hS) hx hq)
theorem q20{d d':Dsk}{M:Int}{S B m:Nat}{t x:ByteArray}{rest:List ByteArray}{W:World}(hT:Tabs ex W)(h:z4k d M S W)(hS:Boxed W S 47 (pT (some ⟨B,0,none⟩)))(hm:W.heap[m]?=some (.map (z07 S 13) 13))(ht:t.size<=100000)(hw:z1f t=x::rest)(n:Nat)(p:Bool)(F:Nat){i:Nat}(HF:Instr.findNow .string (.string x) (z07 S 13).toList 0=some (some (i,.agg #[E G (n:Int),.bool p,.func (.func F) #[pT (some ⟨S,0,none⟩)] #[]])))(eg: ∀args w,(callFunc F args).run tP w= .ok (.enter F args) w)(h1:n<=rest.length)(h2:rest.length<=n\/p=true)(h3:n<=5){xs:List Int}(h4:xs.length=n)(h5: ∀i,i<n->z2y (rest.getD i z2i)=some (xs.getD i 0))(h6: ∀y,y∈rest->y.size<=100000)(h7:rest.length<=100000){cc:Int}(hcc:In64 cc)
  (HME: ∀W' a c,Below W.heap.size W W'->Tabs ex W'->z4k d M S W'->Boxed W' S 47 (pT (some ⟨B,0,none⟩))->z19 W' a xs->(∀q,a=some q->W.heap.size<=q.block)->Calls tP F #[pT (some ⟨S,0,none⟩),.agg #[.slice a xs.length c,.string (z5b (rest.drop n) z35)]] W' fun e w'=>e=z2c cc/\z2r S B W' w'/\z6f d' (M+61) S B W.heap.size w'/\Tabs ex w'):Calls tP 11 #[.string t,.map (some m)] W fun e w'=>e= rT (.string (errB++numB cc))/\z2r S B W w'/\z6f d' (M+61) S B W.heap.size w':=by
 obtain⟨-,dd,hD, -⟩:=z8b h hS;exact zUj t m W hT (x:=x) (rest:=rest) (fun W' _=>z6s hw kO W') hm n p F S HF eg hS.lt B hD.at_.lt (xs:=xs) (fun W' A ao hb hT' hs=>z8i n p _ A ao rest.length rest W' ⟨h1,h2,Nat.le_refl _,h3⟩ hs hT' (m:=n) rfl ⟨Nat.le_refl _,h4,h5,h6⟩ h7) hcc (z6f d' (M+61) S B W.heap.size) (fun W1 W2 r v q _ hr hk=>z71 q hr hk) (fun W' a c hb hT' hx hq=>HME W' a c hb hT' (z5o h hb) ((hb.block S hS.lt).trans hS) hx hq)
theorem zXm{d:Dsk}{M:Int}{S B m:Nat}{t:ByteArray}{W:World}(hT:Tabs ex W)(h:z4k d M S W)(hS:Boxed W S 47 (pT (some ⟨B,0,none⟩)))(ht:t.size<=100000)(hw:z1f t=[]):Calls tP 11 #[.string t,.map (some m)] W fun e w'=>e= rT (.string ⟨#[111,107]⟩)/\z2r S B W w'/\z6f d (M+61) S B W.heap.size w':=by
 refine(zPh t m W hT (fun W' _=>zYj hw kO W')).mono ?_;rintro e w' ⟨rfl,hb⟩;exact⟨rfl,z2r.of_below hb,z4q h hS hb kO⟩
theorem zBu{d:Dsk}{M:Int}{S B m:Nat}{t x:ByteArray}{rest:List ByteArray}{W:World}(hT:Tabs ex W)(h:z4k d M S W)(hS:Boxed W S 47 (pT (some ⟨B,0,none⟩)))(hm:W.heap[m]?=some (.map (z07 S 13) 13))(ht:t.size<=100000)(hw:z1f t=x::rest)(HF:Instr.findNow .string (.string x) (z07 S 13).toList 0=some none):Calls tP 11 #[.string t,.map (some m)] W fun e w'=>e= rT (.string (errB++numB 3))/\z2r S B W w'/\z6f d (M+61) S B W.heap.size w':=by
 refine(zFs t m W hT (x:=x) (rest:=rest) (fun W' _=>z6s hw kO W') hm HF).mono ?_;rintro e w' ⟨rfl,hb⟩;exact⟨rfl,z2r.of_below hb,z4q h hS hb kO⟩
theorem zKw{d:Dsk}{M:Int}{S B m:Nat}{t x:ByteArray}{rest:List ByteArray}{W:World}(hT:Tabs ex W)(h:z4k d M S W)(hS:Boxed W S 47 (pT (some ⟨B,0,none⟩)))(hm:W.heap[m]?=some (.map (z07 S 13) 13))(ht:t.size<=100000)(hw:z1f t=x::rest)(n:Nat)(p:Bool)(F:Nat){i:Nat}(HF:Instr.findNow .string (.string x) (z07 S 13).toList 0=some (some (i,.agg #[E G (n:Int),.bool p,.func (.func F) #[pT (some ⟨S,0,none⟩)] #[]])))(eg: ∀args w,(callFunc F args).run tP w= .ok (.enter F args) w)
  (HRD: ∀W' A ao,Below W.heap.size W W'->Tabs ex W'->zAf W' A ao rest->Calls tP 32 #[.agg #[E G (n:Int),.bool p,.func (.func F) #[pT (some ⟨S,0,none⟩)] #[]],.slice (some ⟨A,ao,none⟩) rest.length rest.length] W' fun e w'=>e=z2c 3/\Below W'.heap.size W' w'):Calls tP 11 #[.string t,.map (some m)] W fun e w'=>e= rT (.string (errB++numB 3))/\z2r S B W w'/\z6f d (M+61) S B W.heap.size w':=by
 refine(zPi t m W hT (x:=x) (rest:=rest) (fun W' _=>z6s hw kO W') hm n p F S HF eg HRD).mono ?_;rintro e w' ⟨rfl,hb⟩;exact⟨rfl,z2r.of_below hb,z4q h hS hb kO⟩
theorem q22(he: ∀w,ex.holds w->z17 w){d:Dsk}{M:Int}{S B m:Nat}{t x:ByteArray}{rest:List ByteArray}{W:World}(hT:Tabs ex W)(h:z4k d M S W)(hS:Boxed W S 47 (pT (some ⟨B,0,none⟩)))(hm:W.heap[m]?=some (.map (z07 S 13) 13))(ht:t.size<=100000)(hw:z1f t=x::rest)(n:Nat)(p:Bool)(F:Nat){i:Nat}(HF:Instr.findNow .string (.string x) (z07 S 13).toList 0=some (some (i,.agg #[E G (n:Int),.bool p,.func (.func F) #[pT (some ⟨S,0,none⟩)] #[]])))(eg: ∀args w,(callFunc F args).run tP w= .ok (.enter F args) w)(h1:n<=rest.length)(h2:rest.length<=n\/p=true)(h3:n<=5){k:Nat}{xs:List Int}(hk:k<n)(hno:z2y (rest.getD k z2i)=none)(h4:xs.length=k)(h5: ∀i,i<k->z2y (rest.getD i z2i)=some (xs.getD i 0))(h6: ∀y,y∈rest->y.size<=100000):Calls tP 11 #[.string t,.map (some m)] W fun e w'=>e= rT (.string (errB++numB 3))/\z2r S B W w'/\z6f d (M+61) S B W.heap.size w':=
 zKw hT h hS hm ht hw n p F HF eg fun W' A ao hb hT' hs=>zXf he n p _ A ao rest.length rest W' ⟨h1,h2,Nat.le_refl _,h3⟩ hs hT' hk hno ⟨Nat.le_of_lt hk,h4,h5,h6⟩
theorem q23{d:Dsk}{M:Int}{S B m:Nat}{t x:ByteArray}{rest:List ByteArray}{W:World}(hT:Tabs ex W)(h:z4k d M S W)(hS:Boxed W S 47 (pT (some ⟨B,0,none⟩)))(hm:W.heap[m]?=some (.map (z07 S 13) 13))(ht:t.size<=100000)(hw:z1f t=x::rest)(n:Nat)(p:Bool)(F:Nat){i:Nat}(HF:Instr.findNow .string (.string x) (z07 S 13).toList 0=some (some (i,.agg #[E G (n:Int),.bool p,.func (.func F) #[pT (some ⟨S,0,none⟩)] #[]])))(eg: ∀args w,(callFunc F args).run tP w= .ok (.enter F args) w)(h1:rest.length<n\/(n<rest.length/\p=false)):Calls tP 11 #[.string t,.map (some m)] W fun e w'=>e= rT (.string (errB++numB 3))/\z2r S B W w'/\z6f d (M+61) S B W.heap.size w':=
 zKw hT h hS hm ht hw n p F HF eg fun W' A ao hb hT' hs=>q1f n p _ A ao rest.length rest W' h1
end
section
open Go.ChangeShapes Go.WideShapes Go.ChangeAt Go.RowKit
def Code(c:Int):Prop:=0<=c/\c<=12
theorem Code.in64{c:Int}(h:Code c):In64 c:=⟨by have:=h.1;omega,by have:=h.2;omega⟩
theorem zU6(xs:List St)(j:Nat):Code (z3p xs j):=by
 unfold z3p z32 z4l z3k Code
 repeat' split
 all_goals((try dsimp only);omega)
theorem zM7(x:Val):Code (z3a x):=by
 unfold z3a Code
 repeat' split
 all_goals omega
theorem zHd(x:Val)(o:Int):Code (z1e x o).2:=by
 unfold z1e Code
 repeat' split
 all_goals((try dsimp only);omega)
theorem zU5(c:Int)(a b:Val):Code (z3s c a b).2:=by
 unfold z3s Code
 repeat' split
 all_goals((try dsimp only);omega)
theorem q30(c:Int)(a b:Val)(r:Bool)(o n:Int):Code (askF c a b r o n).2:=by
 unfold askF Code
 repeat' split
 all_goals((try dsimp only);omega)
theorem q6m(c d s:Int)(r:Bool)(o n:Int)(a:Abs):Code (doF c d s r o n a).2.1:=by
 unfold doF
 repeat' split
 ·exact q30 _ _ _ _ _ _
 ·exact⟨Int.le_refl _,(by decide:(0:Int)<=12)⟩
 ·show Code (z5s _ _ _ _).1
  unfold z5s
  repeat' split
  ·exact zHd _ _
  ·exact⟨(by decide:(0:Int)<=8),(by decide:(8:Int)<=12)⟩
  ·exact⟨Int.le_refl _,(by decide:(0:Int)<=12)⟩
 ·show Code (z4b _ _ _ _).1
  unfold z4b;have:=zHd (a.reg d.toNat) o;unfold Code at*
  repeat' split
  all_goals((try dsimp only);omega)
 ·show Code (z8w _ _).1
  unfold z8w;have:=zM7 (a.reg 1);unfold Code at*
  repeat' split
  all_goals((try dsimp only);omega)
 exact zU5 _ _ _
theorem zYp(C D S:Nat->Int)(R:Nat->Bool)(O N:Nat->Int)(len:Nat): ∀(f pc k:Nat)(a:Abs)(e:Int)(q:Nat),runN C D S R O N len f pc k a= .inl (e,q)->Code e:=by
 intro f;induction f with
 |zero=>
  intro pc k a e q h;simp only[runN,End.bad,Sum.inl.injEq,Prod.mk.injEq]at h;exact⟨by omega,by omega⟩
 |succ f ih=>
  intro pc k a e q h;rw[z5p]at h;split at h
  ·split at h
   ·split at h
    ·exact absurd h (by simp[End.fine])
    ·simp only[End.bad,Sum.inl.injEq,Prod.mk.injEq]at h
     rw[<-h.1];exact zM7 _
   ·split at h
    ·simp only[End.bad,Sum.inl.injEq,Prod.mk.injEq]at h
     rw[<-h.1];exact q6m _ _ _ _ _ _ _
    ·exact ih _ _ _ _ _ h
  ·simp only[End.bad,Sum.inl.injEq,Prod.mk.injEq]at h
   exact⟨by omega,by omega⟩
theorem q18{xs:List St}{T K:Nat->Int}{time c:Int}(h:zF3 xs T K time= .inr c):Code c:=by
 unfold zF3 at h;split at h
 ·rename_i x e
  cases h;exact zYp _ _ _ _ _ _ _ _ _ _ _ _ _ e
 cases h
theorem z8o(x:Kno):Code (z16 x):=by
 unfold z16 Code
 repeat' split
 all_goals omega
theorem zEo(x:Kno)(o:Int):Code (z1m x o).2:=by
 unfold z1m Code
 repeat' split
 all_goals((try dsimp only);omega)
theorem zP9(c:Int)(a b:Kno):Code (z4g c a b).2:=by
 unfold z4g z2e Code
 repeat' split
 all_goals((try dsimp only);omega)
theorem zQz: ∀l:List Kno,Code (z1r l)
 |[]=>⟨Int.le_refl _,(by decide:(0:Int)<=12)⟩
 |x::l=>by
  unfold z1r;split
  ·exact zQz l
  ·exact z8o x
theorem z50:Code 0:=⟨Int.le_refl _,(by decide:(0:Int)<=12)⟩
theorem zYr(y:Way)(p:Int×Int):Code (y.kept p).2:=by
 unfold Way.kept;split
 ·exact z50
 split
 ·exact zQz _
 exact z50
theorem zYq(y:Way)(c:Int)(d s:Nat)(r:Bool)(o n:Int):Code (y.look c d s r o n).2:=by
 unfold Way.look;split
 ·unfold Way.ask Code
  repeat' split
  all_goals((try dsimp only);omega)
 split
 ·exact z50
 split
 ·exact z8o _
 split
 ·split
  ·exact z50
  ·show Code (y.load d s o).1
   have h1:=zEo (y.reg s) o;have h2:=zYr y (z1m (y.reg s) o).1;unfold Way.load;split
   ·exact h1
   ·split
    ·split
     ·exact h2
     ·exact z50
    ·exact z50
 split
 ·split
  ·exact z50
  ·show Code (y.store (y.reg d) (y.second s r n) o).1
   have h1:=zEo (y.reg d) o;have h2:=z8o (y.second s r n);unfold Way.store;unfold Code at*
   repeat' split
   all_goals((try dsimp only);omega)
 split
 ·split
  ·exact z50
  ·show Code (y.call n).1
   have h2:=z8o (y.reg 1);unfold Way.call;unfold Code at*
   repeat' split
   all_goals((try dsimp only);omega)
 split
 ·exact z50
 show Code (y.change c d s r n).1;have h1:=zP9 c (y.reg d) (y.second s r n);unfold Way.change;split
 ·exact z50
 exact h1
theorem q2z(C D S:Nat->Int)(R:Nat->Bool)(O N:Nat->Int): ∀(f:Nat)(st:List (Nat×Way))(ends:List Kno)(x:Int×Nat),goF C D S R O N f st ends= .inl x->Code x.1:=by
 intro f;induction f with
 |zero=>
  intro st ends x h
  cases st with
  |nil=>rw[goF]at h;cases h
  |cons z st=>rw[goF]at h;cases h;exact⟨(by decide:(0:Int)<=4),(by decide:(4:Int)<=12)⟩
 |succ f ih=>
  intro st ends x h
  cases st with
  |nil=>rw[goF]at h;cases h
  |cons z st=>
   rw[goF]at h;split at h
   ·cases h;exact zYq _ _ _ _ _ _ _
   ·exact ih _ _ _ h
theorem zHt{xs:List St}{c:Int}(h:z7n xs= .inr c):Code c:=by
 obtain⟨i,e⟩:=q3t h;exact q2z _ _ _ _ _ _ _ _ _ _ e
theorem z9n{s:ByteArray}{c:Int}(h:z2b s= .inr c):Code c:=by
 unfold z2b at h;split at h
 ·split at h
  ·cases h;exact⟨(by decide:(0:Int)<=4),(by decide:(4:Int)<=12)⟩
  ·split at h
   ·cases h;exact zU6 _ _
   ·cases h
 cases h;exact⟨(by decide:(0:Int)<=3),(by decide:(3:Int)<=12)⟩
theorem zQ5{s:ByteArray}{xs:List St}(h:z2b s= .inl xs):Rdy xs:=by
 unfold z2b at h;split at h
 ·split at h
  ·cases h
  ·rename_i h200
   split at h
   ·cases h
   ·rename_i e
    cases h;have hl:=z4o (z0l s);have hp:0<(z0l s).length:=z94 _ _;refine⟨by omega,by omega,fun j hj=>?_,fun j _=>zJs (z0l s) j⟩;have:=List.find?_eq_none.1 e j (List.mem_range.2 kO);simpa using this
 cases h
def tot(ws:List ByteArray):Nat:=(ws.map fun x=>x.size+1).sum
theorem z6x(x:ByteArray)(ws:List ByteArray):tot (x::ws)=x.size+1+tot ws:=by simp[tot]
theorem zFy: ∀ws:List ByteArray,ws.length<=tot ws
 |[]=>Nat.zero_le _
 |x::ws=>by rw[z6x,List.length_cons];have:=zFy ws;omega
theorem zVi: ∀{ws:List ByteArray}{x:ByteArray},x∈ws->x.size+1<=tot ws
 |y::ws,x,h=>by
  rw[z6x];rcases List.mem_cons.1 h with rfl|h
  ·omega
  ·have:=zVi h;omega
theorem zPu: ∀(n:Nat)(ws:List ByteArray),tot (ws.drop n)<=tot ws
 |0,ws=>Nat.le_refl _
 |n+1,[]=>Nat.le_refl _
 |n+1,x::ws=>by rw[List.drop_succ_cons,z6x];have:=zPu n ws;omega
theorem zPv: ∀(ws:List ByteArray),(Lib.joinTail z35.data.toList (ws.map (·.data.toList))).length=tot ws
 |[]=>rfl
 |x::ws=>by
  have ih:=zPv ws;have ej:Lib.joinTail z35.data.toList ((x::ws).map (·.data.toList))=(z35.data.toList++x.data.toList)++Lib.joinTail z35.data.toList (ws.map (·.data.toList)):=by simp[Lib.joinTail]
  rw[z6x,ej,List.length_append,List.length_append,ih];have e:x.data.toList.length=x.size:=by rw[Array.length_toList];rfl
  have e2:z35.data.toList.length=1:=rfl;omega
theorem q2c(ws:List ByteArray):(z5b ws z35).size<=tot ws:=by
 cases ws with
 |nil=>exact Nat.zero_le _
 |cons x ws=>
  have h:(z5b (x::ws) z35).size=(z5b (x::ws) z35).data.toList.length:=by rw[Array.length_toList];rfl
  rw[h,zTl,List.length_append,z6x];have e:=zPv ws;have e1:x.data.toList.length=x.size:=by rw[Array.length_toList];rfl
  unfold zXk;omega
def z3b(acc:List (Nat×Nat)):Nat:=(acc.map fun x=>x.2-x.1+1).sum
theorem zBn(acc:List (Nat×Nat))(a b:Nat):z3b (acc++[(a,b)])=z3b acc+(b-a+1):=by simp[z3b]
theorem zA8(s:ByteArray)(st:Option Nat)(acc:List (Nat×Nat))(h:match st with|none=>z3b acc<=s.size|some a=>z3b acc<=a/\a<=s.size):z3b (Lib.closeSpans s (acc,st))<=s.size+1:=by
 cases st with
 |none=>exact Nat.le_succ_of_le h
 |some a=>
  obtain⟨h1,h3⟩:=h;show z3b (acc++[(a,s.size)])<=_;rw[zBn];omega
theorem z7q(s:ByteArray): ∀(f pos:Nat)(st:Option Nat)(acc:List (Nat×Nat)),(match st with|none=>z3b acc<=pos/\z3b acc<=s.size|some a=>z3b acc<=a/\a<=pos/\a<=s.size)->z3b (Lib.closeSpans s (Lib.spansFromP zIt s f pos st acc))<=s.size+1
 |0,pos,none,acc,h=>zA8 s none acc h.2
 |0,pos,some a,acc,h=>zA8 s (some a) acc ⟨h.1,h.2.2⟩
 |f+1,pos,none,acc,h=>by
  unfold Lib.spansFromP;have hw:1<=(Utf8.decode s pos).2:=Lib.width_pos s pos;obtain⟨h1,h2⟩:=h;split
  ·split
   ·exact z7q s f _ none acc ⟨by omega,h2⟩
   ·exact z7q s f _ (some pos) acc ⟨by omega,by omega,by omega⟩
  ·exact zA8 s none acc h2
 |f+1,pos,some a,acc,h=>by
  unfold Lib.spansFromP;have hw:1<=(Utf8.decode s pos).2:=Lib.width_pos s pos;obtain⟨h1,h2,h3⟩:=h;split
  ·split
   ·refine z7q s f _ none _ ?_
    show z3b _<=_/\z3b _<=_;rw[zBn];omega
   ·exact z7q s f _ (some a) acc ⟨h1,by omega,h3⟩
  ·exact zA8 s (some a) acc ⟨h1,h3⟩
theorem zPx(s:ByteArray): ∀acc:List (Nat×Nat),tot (acc.map fun x=>s.extract x.1 x.2)<=z3b acc
 |[]=>Nat.le_refl _
 |x::acc=>by
  have ih:=zPx s acc;have e:z3b (x::acc)=x.2-x.1+1+z3b acc:=by simp[z3b]
  rw[List.map_cons,z6x,e,ByteArray.size_extract];omega
theorem zUr(s:ByteArray):tot (z1f s)<=s.size+1:=
 Nat.le_trans (zPx s _) (z7q s s.size 0 none [] ⟨Nat.le_refl _,Nat.zero_le _⟩)
theorem zGm{s x:ByteArray}{rest:List ByteArray}(h:z1f s=x::rest)(n:Nat):(∀y,y∈rest->y.size<=s.size)/\rest.length<=s.size/\(z5b (rest.drop n) z35).size<=s.size:=by
 have h0:=zUr s;rw[h,z6x]at h0;refine⟨fun y hy=>?_,?_,?_⟩
 ·have:=zVi hy;omega
 ·have:=zFy rest;omega
 have h1:=q2c (rest.drop n);have h2:=zPu n rest;omega
end
section
open Go.ChangeShapes Go.WideShapes Go.ChangeAt Go.RowKit Go.Shelf
variable {ex:Ext}
def q63:ByteArray⊕Int->Ending
 | .inl b=> rT (.string b)
 | .inr c=>z2c c
def zVb:ByteArray⊕Int->ByteArray
 | .inl b=>b
 | .inr c=>errB++numB c
def OkR:ByteArray⊕Int->Prop
 | .inl b=>b.size<=4000000
 | .inr c=>Code c
theorem OkR.txt{r:ByteArray⊕Int}(h:OkR r):(zVb r).size<=4000000:=by
 cases r with
 |inl b=>exact h
 |inr c=>
  show(errB++numB c).size<=_;have h1:=z6n c h.in64.1 h.in64.2;have h2:errB.size=6:=rfl;rw[ByteArray.size_append];omega
structure zAg (ex:Ext) (d:Dsk) (M:Int) (S B:Nat) (W:World):Prop where
 hb:11<=S
 M0:0<=M
 M1:M<=200000
 tabs:Tabs ex W
 hand:z0p W
 ses:z4k d M S W
 box:Boxed W S 47 (pT (some ⟨B,0,none⟩))
structure zMn (d:Dsk) (M:Int) (S B:Nat) (W:World) (dd:Dsk):Prop where
 lt:S<B
 ok:DOk W B dd M
 eq:DkEq d dd
 left: ∀k,k<3->(dd.g k).left<=0
 ids: ∀k,k<3-> ∀p,p∈(dd.g k).ps->In64 p.id
theorem zAg.desk{d:Dsk}{M:Int}{S B:Nat}{W:World}(h:zAg ex d M S B W): ∃dd,zMn d M S B W dd:=by
 obtain⟨h2,dd,h3,h4,h5,h6⟩:=z8b h.ses h.box;exact⟨dd,h2,h3,h4,h5,h6⟩
theorem zAg.later{d:Dsk}{M:Int}{S B:Nat}{W W':World}(h:zAg ex d M S B W)(hb:Below W.heap.size W W'):zAg ex d M S B W':=⟨h.hb,h.M0,h.M1,h.tabs.on hb h.tabs.room,h.hand.later hb,z5o h.ses hb,(hb.block S h.box.lt).trans h.box⟩
def z47(ex:Ext)(F:Nat)(d:Dsk)(xs:List Int)(pr:ByteArray)(r:ByteArray⊕Int)(d':Dsk):Prop:=
 ∀(M:Int)(S B n:Nat)(W:World)(a:Option Addr)(c:Nat),zAg ex d M S B W->z19 W a xs->(∀q,a=some q->n<=q.block)->S<n->B<n->n<=W.heap.size->Calls tP F #[pT (some ⟨S,0,none⟩),.agg #[.slice a xs.length c,.string pr]] W fun e w'=>e=q63 r/\z2r S B W w'/\z6f d' (M+61) S B n w'/\Tabs ex w'
def zEt(ex:Ext)(d:Dsk)(t b:ByteArray)(d':Dsk):Prop:=
 ∀(M:Int)(S B m:Nat)(W:World),zAg ex d M S B W->W.heap[m]?=some (.map (z07 S 13) 13)->Calls tP 11 #[.string t,.map (some m)] W fun e w'=>e= rT (.string b)/\z2r S B W w'/\z6f d' (M+61) S B W.heap.size w'
theorem zDo{d d':Dsk}{t x:ByteArray}{rest:List ByteArray}(ht:t.size<=100000)(hw:z1f t=x::rest)(n:Nat)(p:Bool)(F:Nat){i:Nat}(HF: ∀S:Nat,Instr.findNow .string (.string x) (z07 S 13).toList 0=some (some (i,.agg #[E G (n:Int),.bool p,.func (.func F) #[pT (some ⟨S,0,none⟩)] #[]])))(eg: ∀args w,(callFunc F args).run tP w= .ok (.enter F args) w)(h1:n<=rest.length)(h2:rest.length<=n\/p=true)(h3:n<=5){xs:List Int}(h4:xs.length=n)(h5: ∀i,i<n->z2y (rest.getD i z2i)=some (xs.getD i 0)){r:ByteArray⊕Int}(hr:OkR r)(hm:z47 ex F d xs (z5b (rest.drop n) z35) r d'):zEt ex d t (zVb r) d':=by
 intro M S B m W hI hmap;obtain⟨h6,h7, -⟩:=zGm hw n;have h6': ∀y,y∈rest->y.size<=100000:=fun y hy=>Nat.le_trans (h6 y hy) ht;have h7':rest.length<=100000:=kO;obtain⟨dd,hd⟩:=hI.desk;have hB:=hd.ok.at_.lt
 cases r with
 |inl b=>exact q21 hI.tabs hI.ses hI.box hmap ht hw n p F (HF S) eg h1 h2 h3 h4 h5 h6' h7' fun W' a c hb _ _ _ hn hq=>hm M S B W.heap.size W' a c (hI.later hb) hn hq hI.box.lt hB hb.size
 |inr c=>exact q20 hI.tabs hI.ses hI.box hmap ht hw n p F (HF S) eg h1 h2 h3 h4 h5 h6' h7' (Code.in64 hr) fun W' a c hb _ _ _ hn hq=>hm M S B W.heap.size W' a c (hI.later hb) hn hq hI.box.lt hB hb.size
theorem z0x{F:Nat}{d:Dsk}{xs:List Int}{pr:ByteArray}{r:ByteArray⊕Int}(h: ∀(M:Int)(S B:Nat)(W:World)(a:Option Addr)(c:Nat)(dd:Dsk),zAg ex d M S B W->zMn d M S B W dd->z19 W a xs->Calls tP F #[pT (some ⟨S,0,none⟩),.agg #[.slice a xs.length c,.string pr]] W fun e w'=>e=q63 r/\Below W.heap.size W w'):z47 ex F d xs pr r d:=by
 intro M S B n W a c hI hn hq hS hB hnW;obtain⟨dd,hd⟩:=hI.desk;refine(h M S B W a c dd hI hd hn).mono ?_;rintro e w' ⟨rfl,hb⟩;exact⟨rfl,z2r.of_below hb,z4q hI.ses hI.box hb kO,hI.tabs.on hb hI.tabs.room⟩
theorem zAc{B:Nat}{W w':World}(hk:Kept B W w')(hB:B<W.heap.size):Below B W w':=⟨hk.os,hk.tape,hk.output,hk.size,fun k hkB=>hk.block k (Nat.lt_trans hkB hB) fun e=>by have:=Option.some.inj e;omega⟩
theorem z7u{F:Nat}{d d':Dsk}{xs:List Int}{pr:ByteArray}{r:ByteArray⊕Int}(h: ∀(M:Int)(S B:Nat)(W:World)(a:Option Addr)(c:Nat)(dd:Dsk),zAg ex d M S B W->zMn d M S B W dd->z19 W a xs->(∀q,a=some q->q.block≠B)->Calls tP F #[pT (some ⟨S,0,none⟩),.agg #[.slice a xs.length c,.string pr]] W fun e w'=>e=q63 r/\Kept B W w'/\ ∃dd',DOk w' B dd' (M+61)/\DkEq d' dd'/\(∀k,k<3->(dd'.g k).left<=0)/\ ∀k,k<3-> ∀p,p∈(dd'.g k).ps->In64 p.id):z47 ex F d xs pr r d':=by
 intro M S B n W a c hI hn hq hS hB hnW;obtain⟨dd,hd⟩:=hI.desk;refine(h M S B W a c dd hI hd hn fun q e=>by have:=hq q e;omega).mono ?_;rintro e w' ⟨rfl,hk,dd',k1,k2,k3,k4⟩;have hlt:=hd.lt;have hx:Boxed w' S 47 (pT (some ⟨B,0,none⟩)):=(hk.block S hI.box.lt fun z=>by have:=Option.some.inj z;omega).trans hI.box;refine⟨rfl,⟨hk.size,hk.os,hk.tape,hk.output,fun k hkl _ hkB=>hk.block k hkl fun z=>hkB (Option.some.inj z)⟩,zCc ⟨B,dd',hx,hlt,k1,k2,k3,k4⟩ hx (Or.inl rfl),hI.tabs.on (zAc hk kO) (by have:=hI.hb;omega)⟩
end
section
open Go.ChangeShapes Go.WideShapes Go.ChangeAt Go.RowKit
section
variable {w:World} {B:Nat}
theorem zHf{T:Nat->Int}{time:Int}(hT: ∀i,i<8->In64 (T i))(ht:In64 time): ∀(ps:List Pg)(s:Sd),(∀p,p∈ps->PgOk w B p/\In64 p.id)->In64 s.bf->In64 s.num->(∀x,x∈s.out->In64 x)->
  In64 (z08 T time ps s).1.bf/\In64 (z08 T time ps s).1.num/\(∀x,x∈(z08 T time ps s).1.out->In64 x)/\ ∀p,p∈(z08 T time ps s).2->In64 p.id
 |[],s,_,h1,h2,h3=>⟨h1,h2,h3,fun p hp=>absurd hp List.not_mem_nil⟩
 |p::ps,s,h,h1,h2,h3=>by
  obtain⟨hp,hi⟩:=h p mcS;obtain⟨-, -, -, -,r1,r2⟩:=hp.small T time hT ht
  have m3: ∀x,x∈(s.more p (p.run T time)).out->In64 x:=fun x hx=>by
   rcases List.mem_append.1 hx with hx|hx
   ·exact h3 x hx
   ·exact r2 x hx
  have m1:In64 (s.more p (p.run T time)).bf:=by
   show In64 (if _ then _ else _);split
   ·exact h1
   ·exact hi
  have m2:In64 (s.more p (p.run T time)).num:=by
   show In64 (if _ then _ else _);split
   ·exact h2
   ·exact r1
  rw[z08];split
  ·obtain⟨i1,i2,i3,i4⟩:=zHf hT ht ps _ (fun q hq=>h q (mcO _ hq)) m1 m2 m3
   refine⟨i1,i2,i3,fun q hq=>?_⟩;rcases List.mem_cons.1 hq with rfl|hq
   ·exact hi
   ·exact i4 q hq
  ·refine⟨m1,m2,m3,fun q hq=>?_⟩
   rcases List.mem_cons.1 hq with rfl|hq
   ·exact hi
   ·exact(h q (mcO _ hq)).2
structure RdOk (w:World) (B:Nat) (d:Dsk) (N:Int):Prop where
 ps: ∀k,k<3-> ∀p,p∈(d.g k).ps->PgOk w B p/\In64 p.id
 few: ∀k,k<3->(d.g k).ps.length<=8
 told: ∀k,k<3-> ∀T,T∈(d.g k).evs-> ∀i,i<8->In64 (T i)
 ran0:0<=d.ran
 ran1:d.ran<=N
theorem RdOk.ev{d:Dsk}{N:Int}{k:Nat}{T:Nat->Int}{rest:List (Nat->Int)}(h:RdOk w B d N)(hk:k<3)(hN:N<=1000000)(he:(d.g k).evs=T::rest):RdOk w B (evGo d k T rest).1 (N+1)/\SdOk (evGo d k T rest).2:=by
 have hT: ∀i,i<8->In64 (T i):=h.told k hk T (by rw[he];exact mcS);have hti:In64 d.ran:=⟨by have:=h.ran0;omega,by have:=h.ran1;omega⟩;obtain⟨c1,c2,c3,c4,c5⟩:=z5g (w:=w) (B:=B) hT hti (d.g k).ps sd0 fun p hp=>(h.ps k hk p hp).1;obtain⟨n1,n2,n3,n4⟩:=zHf (w:=w) (B:=B) hT hti (d.g k).ps sd0 (h.ps k hk) ⟨by decide,by decide⟩ ⟨by decide,by decide⟩ fun x hx=>absurd hx List.not_mem_nil;have c2':0<=(z08 T d.ran (d.g k).ps sd0).1.steps:=c2;have c3':(z08 T d.ran (d.g k).ps sd0).1.steps<=0+200*((d.g k).ps.length:Int):=c3;have c5':(z08 T d.ran (d.g k).ps sd0).1.out.length<=0+50*(d.g k).ps.length:=c5;have hf:=h.few k hk;have e: ∀j,((evGo d k T rest).1.g j)=if j=k then{d.g k with ps:=(z08 T d.ran (d.g k).ps sd0).2,evs:=rest,left:=(d.g k).left-((z08 T d.ran (d.g k).ps sd0).1.steps+1)}else d.g j:=fun j=>rfl;have hr:(evGo d k T rest).1.ran=d.ran+1:=rfl;refine⟨⟨?_,?_,?_,by rw[hr];have:=h.ran0;omega,by rw[hr];have:=h.ran1;omega⟩,⟨n1,n2,⟨?_,?_⟩,?_,n3⟩⟩
 ·intro j hj
  rw[e j];split
  ·exact fun p hp=>⟨c4 p hp,n4 p hp⟩
  ·exact h.ps j hj
 ·intro j hj
  rw[e j];split
  ·show(z08 T d.ran (d.g k).ps sd0).2.length<=8;omega
  ·exact h.few j hj
 ·intro j hj
  rw[e j];split
  ·exact fun T' hT'=>h.told k hk T' (by rw[he];exact mcO _ hT')
  ·exact h.told j hj
 ·show _<=(z08 T d.ran (d.g k).ps sd0).1.steps;omega
 ·show(z08 T d.ran (d.g k).ps sd0).1.steps<=_;omega
 show(z08 T d.ran (d.g k).ps sd0).1.out.length<=1000;omega
theorem RdOk.left{d:Dsk}{N:Int}{k:Nat}(h:RdOk w B d N)(hk:k<3)(x:Int):RdOk w B (d.put k {d.g k with left:=x}) N:=by
 refine⟨?_,?_,?_,h.ran0,h.ran1⟩<;>intro j hj<;>rw[z3r]<;>split
 ·exact h.ps k hk
 ·exact h.ps j hj
 ·exact h.few k hk
 ·exact h.few j hj
 ·exact h.told k hk
 exact h.told j hj
theorem RdOk.mono{d:Dsk}{N N':Int}(h:RdOk w B d N)(hn:N<=N'):RdOk w B d N':=⟨h.ps,h.few,h.told,h.ran0,Int.le_trans h.ran1 hn⟩
theorem zLi{k:Nat}(hk:k<3): ∀(f:Nat)(d:Dsk)(l:List Sd)(N:Int),RdOk w B d N->N+f<=1000000->(∀s,s∈l->SdOk s)->RdOk w B (z2h k f d l).1 (N+f)/\ ∀s,s∈(z2h k f d l).2->SdOk s
 |0,d,l,N,h,_,hl=>⟨h.mono kO,hl⟩
 |f+1,d,l,N,h,hN,hl=>by
  rw[z2h]
  cases he:(d.g k).evs with
  |nil=>exact⟨h.mono kO,hl⟩
  |cons T rest=>
   dsimp only;split
   ·obtain⟨h1,h2⟩:=h.ev hk kO he
    obtain⟨i1,i2⟩:=zLi hk f _ (l++[(evGo d k T rest).2]) (N+1) h1 kO fun s hs=>by
     rcases List.mem_append.1 hs with hs|hs
     ·exact hl s hs
     ·rw[List.mem_singleton.1 hs];exact h2
    exact⟨i1.mono kO,i2⟩
   ·exact⟨h.mono kO,hl⟩
theorem zLg{d:Dsk}{k:Nat}{N:Int}(hk:k<3)(h:RdOk w B d N)(hN:N+20<=1000000):RdOk w B (z1z d k).1 (N+20)/\ ∀s,s∈(z1z d k).2->SdOk s:=by
 obtain⟨h1,h2⟩:=zLi hk 20 (z69 d k) [] N (h.left hk _) hN fun s hs=>absurd hs List.not_mem_nil;unfold z1z;refine⟨?_,h2⟩;dsimp only;unfold z5y;split
 ·exact h1.left hk _
 exact h1
theorem zAv{d:Dsk}{N:Int}(h:RdOk w B d N)(hN:N<=900000): ∀j,j<=3->RdOk w B (z15 j d).1 (N+20*j)/\ ∀x,x∈(z15 j d).2->x.1<3/\SdOk x.2
 |0,_=>⟨h.mono kO,fun x hx=>absurd hx List.not_mem_nil⟩
 |j+1,hj=>by
  obtain⟨i1,i2⟩:=zAv h hN j kO;obtain⟨g1,g2⟩:=zLg (k:=j) kO i1 kO;rw[z15];dsimp only;refine⟨g1.mono kO,fun x hx=>?_⟩;rcases List.mem_append.1 hx with hx|hx
  ·exact i2 x hx
  ·obtain⟨s,hs,rfl⟩:=List.mem_map.1 hx
   exact⟨by show j<3;omega,g2 s hs⟩
theorem DOk.rd{d:Dsk}{M:Int}(h:DOk w B d M)(hi: ∀k,k<3-> ∀p,p∈(d.g k).ps->In64 p.id):RdOk w B d M:=⟨fun k hk p hp=>⟨h.ps k hk p hp,hi k hk p hp⟩,h.few,h.told,h.ran0,h.ran1⟩
end
end
section
open Go.ChangeShapes Go.WideShapes Go.ChangeAt Go.RowKit
variable {ex:Ext}
section
variable {ps qs:List Pg}
theorem zRb(h:ps.map Pg.bare=qs.map Pg.bare):(ps.map fun p:Pg=>p.id)=qs.map fun p:Pg=>p.id:=by
 have:=congrArg (List.map fun p:Pg=>p.id) h;rwa[List.map_map,List.map_map]at this
theorem zQt(id:Int)(ps:List Pg):(ps.findIdx fun p=>p.id==id)=(ps.map fun p:Pg=>p.id).findIdx (· ==id):=by rw[List.findIdx_map];rfl
theorem z4x(h:ps.map Pg.bare=qs.map Pg.bare)(id:Int):(ps.findIdx fun p=>p.id==id)=qs.findIdx fun p=>p.id==id:=by rw[zQt,zQt,zRb h]
theorem zMk(h:ps.map Pg.bare=qs.map Pg.bare)(I:Nat):(ps.getD I pg0).bare=(qs.getD I pg0).bare:=by
 have e: ∀l:List Pg,(l.getD I pg0).bare=((l.map Pg.bare)[I]?).getD pg0:=fun l=>by
  rw[List.getD_eq_getElem?_getD,List.getElem?_map]
  cases l[I]?<;>rfl
 rw[e,e,h]
theorem zBf: ∀(ps:List Pg)(I:Nat),(ps.eraseIdx I).map Pg.bare=(ps.map Pg.bare).eraseIdx I
 |[],_=>rfl
 |p::ps,0=>rfl
 |p::ps,I+1=>by rw[List.eraseIdx_cons_succ,List.map_cons,List.map_cons,List.eraseIdx_cons_succ,zBf ps I]
end
theorem DkEq.gone{a b:Dsk}(h:DkEq a b)(k I:Nat):DkEq (a.put k {a.g k with ps:=(a.g k).ps.eraseIdx I}) (b.put k {b.g k with ps:=(b.g k).ps.eraseIdx I}):=
 h.put ⟨by show((a.g k).ps.eraseIdx I).map _=((b.g k).ps.eraseIdx I).map _;rw[zBf,zBf,(h.g k).ps],(h.g k).last,(h.g k).evs,(h.g k).may,(h.g k).left⟩
theorem DkEq.swap{a b:Dsk}(h:DkEq a b)(k I:Nat){p q:Pg}(hq:p.bare=q.bare):DkEq (a.put k {a.g k with ps:=(a.g k).ps.set I p}) (b.put k {b.g k with ps:=(b.g k).ps.set I q}):=
 h.put ⟨by show((a.g k).ps.set I p).map _=((b.g k).ps.set I q).map _;rw[List.map_set,List.map_set,(h.g k).ps,hq],(h.g k).last,(h.g k).evs,(h.g k).may,(h.g k).left⟩
structure Pure (d:Dsk):Prop where
 few: ∀k,k<3->(d.g k).ps.length<=8
 evs: ∀k,k<3->(d.g k).evs.length<=20
 left0: ∀k,k<3-> -1601<=(d.g k).left
 left1: ∀k,k<3->(d.g k).left<=2000
 last0: ∀k,k<3->0<=(d.g k).last
 last1: ∀k,k<3->(d.g k).last<=200000
 tab: ∀k,k<3-> ∀p,p∈(d.g k).ps-> ∀i,i<16->In64 (p.tab i)
 ids: ∀k,k<3-> ∀p,p∈(d.g k).ps->In64 p.id
 said: ∀x,x∈(z15 3 d).2->x.1<3/\SdOk x.2
theorem zRc{ps qs:List Pg}(h:ps.map Pg.bare=qs.map Pg.bare){p:Pg}(hp:p∈ps): ∃q,q∈qs/\p.id=q.id/\p.tab=q.tab:=by
 have:p.bare∈qs.map Pg.bare:=by rw[<-h];exact List.mem_map.2 ⟨p,hp,rfl⟩
 obtain⟨q,hq,e⟩:=List.mem_map.1 this;exact⟨q,hq,(show p.bare.id=q.bare.id by rw[e]),show p.bare.tab=q.bare.tab by rw[e]⟩
theorem zMn.pure{d dd:Dsk}{M:Int}{S B:Nat}{W:World}(h:zMn d M S B W dd)(hM:M<=200000):Pure d:=by
 have e:=h.eq.g;refine⟨fun k hk=>?_,fun k hk=>?_,fun k hk=>?_,fun k hk=>?_,fun k hk=>?_,fun k hk=>?_,fun k hk p hp=>?_,fun k hk p hp=>?_,fun x hx=>?_⟩
 ·rw[z4j (e k).ps];exact h.ok.few k hk
 ·rw[(e k).evs];exact h.ok.evs k hk
 ·rw[(e k).left];exact h.ok.left0 k hk
 ·rw[(e k).left];exact h.ok.left1 k hk
 ·rw[(e k).last];exact h.ok.last0 k hk
 ·rw[(e k).last];have:=h.ok.last1 k hk;omega
 ·obtain⟨q,hq, -,e2⟩:=zRc (e k).ps hp
  rw[e2];exact(h.ok.ps k hk q hq).tab
 ·obtain⟨q,hq,e1, -⟩:=zRc (e k).ps hp
  rw[e1];exact h.ids k hk q hq
 rw[(zAw h.eq 3).2]at hx;exact(zAv (h.ok.rd h.ids) kO 3 (Nat.le_refl _)).2 x hx
theorem zGv(k:Nat): ∀(f:Nat)(d:Dsk)(l:List Sd),(z2h k f d l).2.length<=l.length+f
 |0,d,l=>Nat.le_refl _
 |f+1,d,l=>by
  rw[z2h];split
  ·exact Nat.le_add_right _ _
  ·split
   ·rename_i T rest _ _
    have:=zGv k f (evGo d k T rest).1 (l++[(evGo d k T rest).2]);rw[List.length_append,List.length_singleton]at this;refine Nat.le_trans this kO
   ·exact Nat.le_add_right _ _
theorem zDa(d:Dsk): ∀j,(z15 j d).2.length<=20*j
 |0=>Nat.le_refl _
 |j+1=>by
  have h1:=zDa d j;have h2:(z1z (z15 j d).1 j).2.length<=0+20:=zGv j 20 _ [];rw[z15];show((z15 j d).2++_).length<=_;rw[List.length_append,List.length_map];omega
theorem zZ2{w:World}{B:Nat}{d:Dsk}{M:Int}(h:DOk w B d M){i:Nat}(hi:i<952)(b:Bool):d.cell i≠ .bool b:=by
 unfold Dsk.cell;split
 ·unfold z0y z22 z9p z61
  repeat' split
  all_goals first
   |(intro e;cases e;done)
   |skip
  intro e;rw[List.getD_eq_getElem?_getD]at e
  cases hp:(d.g (i/317)).ps[i%317/19]? with
  |none=>rw[hp]at e;cases e
  |some p=>
   rw[hp]at e;obtain⟨bk,cap,e', -⟩:=(h.ps (i/317) kO p (List.mem_of_getElem? hp)).lies;have e2:p.sl= .bool b:=e;rw[e']at e2
   cases e2
 intro e;cases e
theorem zVs{w:World}{B:Nat}{d:Dsk}{M:Int}{l:Value}{xs:List St}(h:DOk w B d M)(hl:LsAt w l xs)(h1:1<=xs.length): ∀a n c,l= .slice (some a) n c->a.block≠B:=by
 obtain⟨a,cap,e,h2⟩:=hl.lies;obtain⟨bk,off,rfl,h3,h4⟩:=h2.resolve_left kO;intro a' n c e' hB;rw[e]at e'
 cases e';have hB':bk=B:=hB;have h5:=(h4 0 h1).2.2.2.1;rw[hB']at h5
 by_cases hi:off+0*6+3<952
 ·rw[FnAt.at h.at_ _ hi]at h5
  exact zZ2 h hi _ (Option.some.inj h5)
 have h6:w.heap[B]?=some _:=h.at_
 have e:w.cell? ⟨B,off+0*6+3,none⟩=none:=by
  simp only[World.cell?,h6];exact Array.getElem?_eq_none (by rw[Array.size_ofFn];omega)
 rw[e]at h5
 cases h5
end
end Go.Proofs.YtkdflpplamebkaaGreatDoor
