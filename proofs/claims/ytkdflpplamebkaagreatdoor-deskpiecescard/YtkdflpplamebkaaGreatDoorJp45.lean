/-
A part of the proof of DeskPieces; its card says what is proved.
-/
import Derived.Test.YtkdflpplamebkaaGreatDoorJp44
import Derived.LaidHandle
set_option maxHeartbeats 40000000
open Go.Value renaming int → A
open Go.IntKind renaming i64 → C
open Go.RowKit.Below renaming alloc → bA, setCell → bS, drew → bD, refl → bF
set_option maxRecDepth 1000000
set_option linter.defProp false
set_option linter.unusedVariables false
set_option linter.unusedSimpArgs false
open Go.Value renaming pointer → pT
open Go.Proofs.Tryz renaming prog → tP
namespace Go.Proofs.YtkdflpplamebkaaGreatDoor
open Go.ChangeShapes Go.WideShapes Go.ChangeAt Go.RowKit
section
variable {ex:Ext}
theorem nums_read(rest:List ByteArray): ∀n,(∃xs:List Int,xs.length=n/\ ∀i,i<n->z2y (rest.getD i z2i)=some (xs.getD i 0))\/ ∃(k:Nat)(xs:List Int),k<n/\z2y (rest.getD k z2i)=none/\xs.length=k/\ ∀i,i<k->z2y (rest.getD i z2i)=some (xs.getD i 0)
 |0=>Or.inl ⟨[],rfl,fun i hi=>absurd hi kO⟩
 |n+1=>by
  rcases nums_read rest n with⟨xs,h1,h2⟩|⟨k,xs,h1,h2⟩
  ·cases hn:z2y (rest.getD n z2i)with
   |none=>exact Or.inr ⟨n,xs,by omega,hn,h1,h2⟩
   |some v=>
    refine Or.inl ⟨xs++[v],by simp[h1],fun i hi=>?_⟩;rw[zLf];split
    ·rename_i e;rw[e,h1];exact hn
    ·exact h2 i kO
  ·exact Or.inr ⟨k,xs,by omega,h2⟩
theorem zAp:(errB++numB 3).size<=4000000:=OkR.txt (r:= .inr 3) ⟨by decide,by decide⟩
theorem z3g(he: ∀w,ex.holds w->z17 w){d:Dsk}{t x:ByteArray}{rest:List ByteArray}(ht:t.size<=100000)(hw:z1f t=x::rest)(n:Nat)(p:Bool)(F:Nat){i:Nat}(HF: ∀S:Nat,Instr.findNow .string (.string x) (z07 S 13).toList 0=some (some (i,.agg #[A C (n:Int),.bool p,.func (.func F) #[pT (some ⟨S,0,none⟩)] #[]])))(eg: ∀args w,(callFunc F args).run tP w= .ok (.enter F args) w)(h3:n<=5)(HM: ∀(xs:List Int)(pr:ByteArray),pr.size<=100000->xs.length=n->(∀i,i<xs.length->In64 (xs.getD i 0))-> ∃r d',OkR r/\z47 ex F d xs pr r d'): ∃b d',b.size<=4000000/\zEt ex d t b d':=by
 by_cases h1:rest.length<n\/(n<rest.length/\p=false)
 ·exact⟨_,d,zAp,fun M S B m W hI hmap=>q23 hI.tabs hI.ses hI.box hmap ht hw n p F (HF S) eg h1⟩
 have g1:n<=rest.length:=kO
 have g2:rest.length<=n\/p=true:=by
  by_cases q:rest.length<=n
  ·exact Or.inl q
  ·exact Or.inr (by cases p with|true=>rfl|false=>exact absurd (Or.inr ⟨by omega,rfl⟩) h1)
 obtain⟨h6,h7,h8⟩:=zGm hw n;rcases nums_read rest n with⟨xs,h4,h5⟩|⟨k,xs,hk,hno,h4,h5⟩
 ·obtain⟨r,d',hr,hm⟩:=HM xs (z5b (rest.drop n) z35) kO h4 fun i hi=>(zB4 (h5 i kO)).1
  exact⟨_,d',hr.txt,zDo ht hw n p F HF eg g1 g2 h3 h4 h5 hr hm⟩
 exact⟨_,d,zAp,fun M S B m W hI hmap=>q22 he hI.tabs hI.ses hI.box hmap ht hw n p F (HF S) eg g1 g2 h3 hk hno h4 h5 fun y hy=>Nat.le_trans (h6 y hy) ht⟩
theorem zZ8{x y:ByteArray}(h:(x==y)=true):x=y:=by
 cases x;cases y;rw[show((⟨_⟩:ByteArray)==⟨_⟩)=_ from rfl]at h;exact congrArg ByteArray.mk (eq_of_beq h)
theorem zL1{x:ByteArray}: ∀(es:List MapEntry)(i:Nat),(∀e,e∈es-> ∃y,e.key= .string y/\y≠x)->Instr.findNow .string (.string x) es i=some none
 |[],_,_=>rfl
 |e::es,i,h=>by
  obtain⟨y,e1,e2⟩:=h e mcS
  have hs:Instr.sameNow .string (.string x) e.key=some false:=by
   rw[e1];show some (x==y)=some false
   cases hh:x==y with
   |false=>rfl
   |true=>exact absurd (zZ8 hh).symm e2
  rw[Instr.findNow,hs];exact zL1 es (i+1) fun z hz=>h z (mcO _ hz)
theorem q2b(S:Nat):((z07 S 13).toList.map fun e=>e.key)=zDu.map fun r=>Value.string r.1:=kR
theorem zUs{x:ByteArray}(h:x∉zDu.map fun r=>r.1)(S:Nat):Instr.findNow .string (.string x) (z07 S 13).toList 0=some none:=by
 refine zL1 _ 0 fun e hm=>?_;have h1:e.key∈(z07 S 13).toList.map fun e=>e.key:=List.mem_map.2 ⟨e,hm,rfl⟩;rw[q2b]at h1;obtain⟨r,hr,e1⟩:=List.mem_map.1 h1;exact⟨r.1,e1.symm,fun z=>h (List.mem_map.2 ⟨r,hr,z⟩)⟩
theorem q24(he: ∀w,ex.holds w->z17 w)(hu: ∀w,ex.holds w->Lib.Utf8Tabs 2 3 w)(d:Dsk)(t:ByteArray)(ht:t.size<=100000): ∃b d',b.size<=4000000/\zEt ex d t b d':=by
 by_cases hex: ∃M S B W,zAg ex d M S B W
 case neg=>exact⟨z2i,d,Nat.zero_le _,fun M S B m W hI=>absurd ⟨M,S,B,W,hI⟩ hex⟩
 obtain⟨M,S,B,W,hI⟩:=hex;obtain⟨dd,hd⟩:=hI.desk;have hP:=hd.pure hI.M1;clear hd hI
 cases hw:z1f t with
 |nil=>exact⟨⟨#[111,107]⟩,d,(by decide:(2:Nat)<=4000000),fun M S B m W hI hmap=>zXm hI.tabs hI.ses hI.box ht hw⟩
 |cons x rest=>
  by_cases hx:x∈zDu.map fun r=>r.1
  case neg=>exact⟨_,d,zAp,fun M S B m W hI hmap=>zBu hI.tabs hI.ses hI.box hmap ht hw (zUs hx S)⟩
  simp only[zDu,List.map_cons,List.map_nil,List.mem_cons,List.mem_nil_iff,or_false]at hx;rcases hx with rfl|rfl|rfl|rfl|rfl|rfl|rfl|rfl|rfl|rfl|rfl|rfl|rfl
  ·exact z3g he ht hw 2 true _ zHm (fun _ _=>by kernel_rfl) kD fun xs pr hp hl hi=>q1s d xs pr he hu hp hP hl
  ·exact z3g he ht hw 2 false _ zYx (fun _ _=>by kernel_rfl) kD fun xs pr hp hl hi=>q5n d xs pr hP hl
  ·exact z3g he ht hw 0 true _ zMa (fun _ _=>by kernel_rfl) kD fun xs pr hp hl hi=>q5m d xs pr he hu hp
  ·exact z3g he ht hw 2 false _ zU3 (fun _ _=>by kernel_rfl) kD fun xs pr hp hl hi=>q1r d xs pr hP hl
  ·exact z3g he ht hw 5 false _ q2t (fun _ _=>by kernel_rfl) kD fun xs pr hp hl hi=>m_does d xs pr hl hi
  ·exact z3g he ht hw 3 false _ zYg (fun _ _=>by kernel_rfl) kD fun xs pr hp hl hi=>q5l d xs pr hP hl hi
  ·exact z3g he ht hw 0 false _ zQo (fun _ _=>by kernel_rfl) kD fun xs pr hp hl hi=>m_help d xs pr
  ·exact z3g he ht hw 3 false _ q5f (fun _ _=>by kernel_rfl) kD fun xs pr hp hl hi=>m_new d xs pr hl
  ·exact z3g he ht hw 1 false _ zKg (fun _ _=>by kernel_rfl) kD fun xs pr hp hl hi=>zTb d xs pr hP hl
  ·exact z3g he ht hw 2 true _ zNj (fun _ _=>by kernel_rfl) kD fun xs pr hp hl hi=>zXe d xs pr he hu hp hP hl
  ·exact z3g he ht hw 0 false _ zWa (fun _ _=>by kernel_rfl) kD fun xs pr hp hl hi=>q5k d xs pr hP
  ·exact z3g he ht hw 1 true _ q52 (fun _ _=>by kernel_rfl) kD fun xs pr hp hl hi=>m_run d xs pr he hu hp hl hi
  ·exact z3g he ht hw 1 false _ zVu (fun _ _=>by kernel_rfl) kD fun xs pr hp hl hi=>q5j d xs pr hP hl
end
section
variable {ex:Ext}
def z7i:List UInt8->List UInt8->List (List UInt8)
 |acc,[]=>[acc]
 |acc,b::l=>if b=10 then acc::z7i [] l else z7i (acc++[b]) l
theorem z62: ∀(a acc b:List UInt8),z7i acc (a++10::b)=z7i acc a++z7i [] b
 |[],acc,b=>by
  show(if(10:UInt8)=10 then acc::z7i [] b else z7i (acc++[10]) b)=_;rw[if_pos rfl];rfl
 |x::a,acc,b=>by
  show z7i acc (x::(a++10::b))=_;rw[z7i,z7i];split
  ·rw[z62 a [] b];rfl
  ·exact z62 a _ b
theorem zBd: ∀(u acc:List UInt8),(∀b∈u,b≠10)->z7i acc u=[acc++u]
 |[],acc,_=>by simp[z7i]
 |b::u,acc,h=>by
  rw[z7i,if_neg (h b mcS),zBd u _ fun x hx=>h x (mcO _ hx),List.append_assoc];rfl
theorem feed_or(l:List UInt8):(∀b∈l,b≠10)\/ ∃u r,l=u++10::r/\ ∀b∈u,b≠10:=by
 by_cases h:(10:UInt8)∈l
 ·obtain⟨u,r,e,hn⟩:=List.eq_append_cons_of_mem h
  exact Or.inr ⟨u,r,e,fun b hb e'=>hn (e'▸hb)⟩
 exact Or.inl fun b hb e=>h (e▸hb)
theorem zYf: ∀(x y:List UInt8),(∀b∈x,b≠10)->Lib.indexByte (x++10::y) 10=x.length
 |[],y,_=>by simp[Lib.indexByte]
 |b::x,y,h=>by
  have ih:=zYf x y fun z hz=>h z (mcO _ hz);have hb:(b==10)=false:=by simpa using h b mcS
  show Lib.indexByte (b::(x++10::y)) 10=_;rw[Lib.indexByte,ih];rw[if_neg (by rw[hb];decide),if_neg kS];simp
theorem zYe: ∀(x:List UInt8),(∀b∈x,b≠10)->Lib.indexByte x 10= -1
 |[],_=>rfl
 |b::x,h=>by
  have ih:=zYe x fun z hz=>h z (mcO _ hz);have hb:(b==10)=false:=by simpa using h b mcS
  rw[Lib.indexByte,ih,if_neg (by rw[hb];decide),if_pos kD]
theorem zKt{f:Nat}{x:List UInt8}(h: ∀b∈x,b≠10):z1y f (mkB x)=[mkB x]:=
 zKu (by unfold feed;rw[z30,zYe x h];decide)
theorem zXl{f:Nat}{x y:List UInt8}(h: ∀b∈x,b≠10):z1y (f+1) (mkB (x++10::y))=mkB x::z1y f (mkB y):=by
 have hs:feed (mkB (x++10::y))=x.length:=by unfold feed;rw[z30,zYf x y h]
 rw[zKv (by rw[hs];omega),hs,Int.toNat_natCast];congr 1
 ·apply z6t
  rw[z87,z30,z30];simp
 congr 1;apply z6t;rw[z87,z30,z30];rw[zIr,z30];simp;rw[show x.length+(y.length+1)-(x.length+1)=y.length by omega,List.take_length]
theorem zGo: ∀(n f:Nat)(l:List UInt8),l.length<=n->l.length<=f->z1y f (mkB l)=(z7i [] l).map mkB
 |0,f,l,h,_=>by
  obtain rfl:l=[]:=List.eq_nil_of_length_eq_zero kO;rw[zKt kS];rfl
 |n+1,f,l,h,hf=>by
  rcases feed_or l with hn|⟨u,r,rfl,hn⟩
  ·rw[zBd l [] hn,zKt hn];rfl
  ·rw[List.length_append,List.length_cons]at h hf
   obtain⟨f',rfl⟩: ∃f',f=f'+1:=⟨f-1,by omega⟩;rw[zXl hn,z62 u [] r,zBd u [] hn,zGo n f' r kO kO];rfl
theorem zGn(l:List UInt8):z29 (mkB l)=(z7i [] l).map mkB:=by
 have e:(mkB l).size=l.length:=by rw[zIr,z30]
 unfold z29;rw[e];exact zGo l.length l.length l (Nat.le_refl _) (Nat.le_refl _)
theorem zPt(u:List UInt8):Lib.trimSuffix (u++[10]) [10]=u:=by
 have h:Lib.hasSuffix (u++[10]) [10]=true:=by
  unfold Lib.hasSuffix;rw[List.isSuffixOf_iff_suffix];exact⟨u,rfl⟩
 rw[Lib.trimSuffix,if_pos h];simp
theorem zVh{u:List UInt8}{z:UInt8}(hz:z≠10):Lib.trimSuffix (u++[z]) [10]=u++[z]:=by
 rw[Lib.trimSuffix,if_neg];intro h;unfold Lib.hasSuffix at h;rw[List.isSuffixOf_iff_suffix]at h;obtain⟨v,e⟩:=h;have:=List.append_inj_right' e rfl;exact hz (List.cons.inj this).1.symm
theorem zN4(l:List UInt8):z49 (mkB l)=mkB (Lib.trimSuffix l [10]):=by
 unfold z49;rw[z30];rfl
theorem zTj(a b:List UInt8): ∃L,z29 (z49 (mkB (a++10::b)))=z29 (z49 (mkB (a++[10])))++L:=by
 have h0:z29 (z49 (mkB (a++[10])))=(z7i [] a).map mkB:=by rw[zN4,zPt,zGn]
 rw[h0];have go: ∀c:List UInt8,∃L,z29 (mkB (a++10::c))=(z7i [] a).map mkB++L:=fun c=>⟨(z7i [] c).map mkB,by rw[zGn,z62,List.map_append]⟩;rcases List.eq_nil_or_concat b with rfl|⟨b',z,rfl⟩
 ·exact⟨[],by rw[List.append_nil];exact h0⟩
 have e:a++10::b'.concat z=(a++10::b')++[z]:=by simp
 by_cases hz:z=10
 ·rw[e,hz,zN4,zPt];exact go b'
 rw[e,zN4,zVh hz, <-e];exact go _
theorem zBq(ans:Dsk->ByteArray->ByteArray×Dsk)(m:List ByteArray): ∀(l:List ByteArray)(d:Dsk),z57 ans d (l++m)=z57 ans d l++z57 ans (stTo ans d l) m
 |[],d=>rfl
 |x::l,d=>by
  show _++z57 ans _ (l++m)=(_++_)++_;rw[zBq ans m l,List.append_assoc];rfl
def z6e:Dsk:=z3o (fun i=>[10,20,30].getD i 0) 3
def q61:List St:=[⟨1,0,0,false,0,3⟩,⟨28,0,0,false,0,0⟩]
def zFo:Dsk:=q3h z6e 1 q61 5
def zFh:ByteArray:=⟨#[99,104,101,99,107,32,109,111,118,32,114,48,32,51,59,32,101,120,105,116]⟩
def zIq:ByteArray:=⟨#[97,116,116,97,99,104,32,49,32,53,32,109,111,118,32,114,48,32,51,59,32,101,120,105,116]⟩
def zIp:ByteArray:=⟨#[120]⟩
def mov3:ByteArray:=⟨#[109,111,118,32,114,48,32,51,59,32,101,120,105,116]⟩
def q2r:ByteArray:=⟨#[101,110,100,115,32,51,32,51]⟩
def one1:ByteArray:=⟨#[49]⟩
def zQv:ByteArray:=⟨#[101,114,114,111,114,32,51]⟩
theorem zKr:z2b mov3= .inl q61:=kR
theorem zLx:z7n q61= .inl (3,3):=kR
theorem q41{b c:ByteArray}(h:zVb (.inl b)=c)(hc:c.size<=4000000):OkR (.inl b):=by
 subst h;exact hc
theorem q27(he: ∀w,ex.holds w->z17 w)(hu: ∀w,ex.holds w->Lib.Utf8Tabs 2 3 w):zEt ex z6e zFh q2r z6e:=by
 have e:zVb (.inl (⟨#[101,110,100,115,32]⟩++rowB [3,3]))=q2r:=by kernel_rfl
 rw[<-e];exact zDo (x:=q4f) (rest:=[⟨#[109,111,118]⟩,⟨#[114,48]⟩,⟨#[51,59]⟩,⟨#[101,120,105,116]⟩]) kD kR 0 true _ zMa (fun _ _=>by kernel_rfl) kD (Or.inr rfl) kD (xs:=[]) rfl (fun i hi=>absurd hi kO) (q41 e kD) (zBs (p:=(3,3)) z6e [] mov3 he hu kD zKr zLx)
theorem q26(he: ∀w,ex.holds w->z17 w)(hu: ∀w,ex.holds w->Lib.Utf8Tabs 2 3 w):zEt ex z6e zIq one1 zFo:=by
 intro M S B m W hI hmap;obtain⟨dd,hd⟩:=hI.desk;have e:zVb (.inl (rowB [(z6e.g 1).last+1]))=one1:=by kernel_rfl
 rw[<-e];exact zDo (x:=q02) (rest:=[⟨#[49]⟩,⟨#[53]⟩,⟨#[109,111,118]⟩,⟨#[114,48]⟩,⟨#[51,59]⟩,⟨#[101,120,105,116]⟩]) kD kR 2 true _ zHm (fun _ _=>by kernel_rfl) kD (Or.inr rfl) kD (xs:=[1,5]) rfl (fun i hi=>by rcases(by omega:i=0\/i=1)with rfl|rfl<;>kernel_rfl) (q41 e kD) (z9v (k:=1) (p:=(3,3)) z6e [1,5] mov3 he hu kD (hd.pure hI.M1) rfl kD rfl zKr zLx (Nat.zero_le _)) M S B m W hI hmap
theorem q25:zEt ex zFo zIp zQv zFo:=by
 have e:errB++numB 3=zQv:=by kernel_rfl
 rw[<-e];exact fun M S B m W hI hmap=>zBu (x:=zIp) (rest:=[]) hI.tabs hI.ses hI.box hmap kD kR kR
def AnsOk(ex:Ext)(d:Dsk)(t:ByteArray)(x:ByteArray×Dsk):Prop:=(x.1.size<=4000000/\(t.size<=100000->zEt ex d t x.1 x.2))/\(d=z6e->t=zFh->x=(q2r,z6e))/\(d=z6e->t=zIq->x=(one1,zFo))/\(d=zFo->t=zIp->x=(zQv,zFo))
theorem zRd(he: ∀w,ex.holds w->z17 w)(hu: ∀w,ex.holds w->Lib.Utf8Tabs 2 3 w)(d:Dsk)(t:ByteArray): ∃x,AnsOk ex d t x:=by
 have n12:zFh≠zIq:=kD;have n13:zFh≠zIp:=kD;have n23:zIq≠zIp:=kD
 by_cases h1:d=z6e/\t=zFh
 ·obtain⟨rfl,rfl⟩:=h1
  exact⟨(q2r,z6e),⟨(by decide:(8:Nat)<=4000000),fun _=>q27 he hu⟩,fun _ _=>rfl,fun _ h=>absurd h n12,fun _ h=>absurd h n13⟩
 by_cases h2:d=z6e/\t=zIq
 ·obtain⟨rfl,rfl⟩:=h2
  exact⟨(one1,zFo),⟨(by decide:(1:Nat)<=4000000),fun _=>q26 he hu⟩,fun _ h=>absurd h.symm n12,fun _ _=>rfl,fun _ h=>absurd h n23⟩
 by_cases h3:d=zFo/\t=zIp
 ·obtain⟨rfl,rfl⟩:=h3
  exact⟨(zQv,zFo),⟨(by decide:(7:Nat)<=4000000),fun _=>q25⟩,fun _ h=>absurd h.symm n13,fun _ h=>absurd h.symm n23,fun _ _=>rfl⟩
 by_cases ht:t.size<=100000
 ·obtain⟨b,d',hb,hl⟩:=q24 he hu d t ht
  exact⟨(b,d'),⟨hb,fun _=>hl⟩,fun a b=>absurd ⟨a,b⟩ h1,fun a b=>absurd ⟨a,b⟩ h2,fun a b=>absurd ⟨a,b⟩ h3⟩
 exact⟨(z2i,d),⟨Nat.zero_le _,fun h=>absurd h ht⟩,fun a b=>absurd ⟨a,b⟩ h1,fun a b=>absurd ⟨a,b⟩ h2,fun a b=>absurd ⟨a,b⟩ h3⟩
def q4k(w:World)(so:ByteArray->ByteArray):Prop:= ∀W s,Below w.heap.size w W->s.size<=3000->zR 4 #[.string s] W (.string (so s))
def z8z:ByteArray:=⟨#[10]⟩
def zVj:ByteArray:=⟨#[99,104,101,99,107,32,109,111,118,32,114,48,32,51,59,32,101,120,105,116,10,97,116,116,97,99,104,32,49,32,53,32,109,111,118,32,114,48,32,51,59,32,101,120,105,116,10,120,10]⟩
def q17:ByteArray:=⟨#[101,110,100,115,32,51,32,51,10,49,10,101,114,114,111,114,32,51,10]⟩
theorem zN5:z29 (z49 zVj)=[zFh,zIq,zIp]:=kR
theorem zW6(he: ∀w,ex.holds w->z17 w)(hu: ∀w,ex.holds w->Lib.Utf8Tabs 2 3 w)(w:World)(hT:Tabs ex w)(hg:z0p w): ∃so:ByteArray->ByteArray,q4k w so/\so zVj=q17/\ ∀a b:ByteArray,∃z,so (a++z8z++b)=so (a++z8z)++z:=by
 obtain⟨ans,ha⟩: ∃ans:Dsk->ByteArray->ByteArray×Dsk,∀d t,AnsOk ex d t (ans d t):=⟨fun d t=>Classical.choose (zRd he hu d t),fun d t=>Classical.choose_spec (zRd he hu d t)⟩;refine⟨fun s=>mkB (z57 ans z6e (z29 (z49 s))),fun W s hb hs=>?_,?_,fun a b=>?_⟩
 ·have hT':=hT.on hb hT.room
  refine zNb ans s hs W hT' (fun d M W' t m B h1 h2 h3 h4 h5 h6 h7=>?_) fun d t=>(ha d t).1.1;have hroom:=hT'.room;refine((ha d t).1.2 h7 M (W.heap.size+1) B m W' ⟨by omega,h2,h3,hT'.on h4 hroom,(hg.later hb).later h4,h1,h6⟩ h5).mono ?_;rintro e w' ⟨e1,e2,e3,e4⟩;exact⟨e1,e2,e3,e4⟩
 ·show mkB (z57 ans z6e (z29 (z49 zVj)))=q17
  rw[zN5];show mkB (((ans z6e zFh).1++zC6).data.toList++(((ans (ans z6e zFh).2 zIq).1++zC6).data.toList++(((ans (ans (ans z6e zFh).2 zIq).2 zIp).1++zC6).data.toList++[])))=q17;rw[(ha z6e zFh).2.1 rfl rfl];dsimp only;rw[(ha z6e zIq).2.2.1 rfl rfl];dsimp only;rw[(ha zFo zIp).2.2.2 rfl rfl];kernel_rfl
 have e1:a++z8z++b=mkB (a.data.toList++10::b.data.toList):=z6t (by
  rw[z30,ByteArray.data_append,ByteArray.data_append,Array.toList_append,Array.toList_append,List.append_assoc];rfl)
 have e2:a++z8z=mkB (a.data.toList++[10]):=z6t (by
  rw[z30,ByteArray.data_append,Array.toList_append];rfl)
 obtain⟨L,hL⟩:=zTj a.data.toList b.data.toList;refine⟨mkB (z57 ans (stTo ans z6e (z29 (z49 (mkB (a.data.toList++[10]))))) L),?_⟩;dsimp only;rw[e1,e2,hL,zBq];refine z6t ?_;rw[z30,ByteArray.data_append,Array.toList_append,z30,z30]
end
section
variable {ex:Ext}
theorem zM2(a b:ByteArray)(w:World)(ha:a.size<=1000000000000000000)(hb:b.size<=1000000000000000000)(h:2500<a.size+b.size):zR 3 #[.string a,.string b] w (.bool true):=by
 have z:decide (2500<(a.size:Int)+(b.size:Int))=true:=decide_eq_true kO;have z1:wrap64 ((a.size:Int)+(b.size:Int))=(a.size:Int)+(b.size:Int):=by unfold wrap64;omega
 go_enter Tryz.func3,Tryz.ntmps3;go_wp2_with fail;go_ret;exact⟨rfl,bF _ _⟩
theorem zJ1(a b:ByteArray)(w:World)(h:a.size+b.size<=2500)(so:ByteArray->ByteArray)(HS:Hid (q4k w so))(H3:Hid (so zVj=q17)){X Z:ByteArray}(HX:Hid (so (a++z8z)=X))(HY:Hid (so (a++z8z++b)=X++Z)):zR 3 #[.string a,.string b] w (.bool true):=by
 have z:decide (2500<(a.size:Int)+(b.size:Int))=false:=decide_eq_false kO
 have hC: ∀W,Below w.heap.size w W->zR 4 #[.string ⟨#[99,104,101,99,107,32,109,111,118,32,114,48,32,51,59,32,101,120,105,116,10,97,116,116,97,99,104,32,49,32,53,32,109,111,118,32,114,48,32,51,59,32,101,120,105,116,10,120,10]⟩] W (.string ⟨#[101,110,100,115,32,51,32,51,10,49,10,101,114,114,111,114,32,51,10]⟩):=fun W hW=>(HS.out W zVj hW kD).mono fun e w' q=>by
  rw[H3.out]at q;exact q
 have hA: ∀W,Below w.heap.size w W->zR 4 #[.string (a++⟨#[10]⟩)] W (.string X):=fun W hW=>(HS.out W (a++z8z) hW (by rw[ByteArray.size_append];have:z8z.size=1:=rfl;omega)).mono fun e w' q=>by
  rw[HX.out]at q;exact q
 have hB: ∀W,Below w.heap.size w W->zR 4 #[.string (a++⟨#[10]⟩++b)] W (.string (X++Z)):=fun W hW=>(HS.out W (a++z8z++b) hW (by rw[ByteArray.size_append,ByteArray.size_append];have:z8z.size=1:=rfl;omega)).mono fun e w' q=>by
  rw[HY.out]at q;exact q
 clear HS H3 HX HY;go_enter Tryz.func3,Tryz.ntmps3;go_upto_region 5 with(first|(go_at_call 4;refine(hC _ (bF _ _)).mono ?_;rintro e w1 ⟨rfl,hb1⟩)|fail)
 have n1: ¬9223372036854775807<a.size+1:=kO;have n2: ¬9223372036854775807<a.size+1+b.size:=kO;go_upto_region 6 with(first|(go_at_call 4;refine(hA _ hb1).mono ?_;rintro e w2 ⟨rfl,hb2⟩)|fail)
 have hb3:=hb1.trans (hb2.mono hb1.size);go_upto_region 7 with(first|(go_at_call 4;refine(hB _ hb3).mono ?_;rintro e w3 ⟨rfl,hb4⟩)|fail)
 have z2:decide ((X.size:Int)<=(X.size:Int)+(Z.size:Int))=true:=decide_eq_true kO
 have z3:(((X++Z).extract 0 X.size).toList==X.toList)=true:=by
  have e:(X++Z).extract 0 X.size=X:=z6t (by
   rw[z87,ByteArray.data_append,Array.toList_append,zIr];simp)
  rw[e];exact beq_self_eq_true _
 go_wp2_with fail;go_ret;exact⟨rfl,hb3.trans (hb4.mono hb3.size)⟩
theorem zSp(he: ∀w,ex.holds w->z17 w)(hu: ∀w,ex.holds w->Lib.Utf8Tabs 2 3 w)(a b:ByteArray)(w:World)(ha:a.size<=1000000000000000000)(hb:b.size<=1000000000000000000)(hT:Tabs ex w)(hg:z0p w):zR 3 #[.string a,.string b] w (.bool true):=by
 by_cases h:a.size+b.size<=2500
 ·obtain⟨so,h1,h2,h3⟩:=zW6 he hu w hT hg
  obtain⟨Z,hZ⟩:=h3 a b;exact zJ1 a b w h so h1 h2 rfl hZ
 exact zM2 a b w ha hb kO
end
def zHy{H:Type}(xs:List (List UInt8)):DataW H:= .agg (xs.map fun b=> .lit (.string b))
theorem zJd{H:Type}{enc:TypeId×Value->H}{P:Program}{w:World}{base:Nat}{sp:Nat->Bool}{held:Bool}{fuel:Nat}{t e:TypeId}{n:Nat}{cs:List Value}{xs:List (List UInt8)}{p:List MemPlace}
  (ht:P.underlying t=some (.array n e))(he:P.underlying e=some .string)(hce:P.cellsOf e=1)(hct:P.cellsOf t=n)
  (h:DataW.trod enc P w base sp held fuel t cs=some (zHy xs,p)): ∀(i:Nat)(b:List UInt8),xs[i]?=some b->cs[i]?=some (Value.string ⟨b.toArray⟩):=by
 intro i b hib
 cases fuel with
 |zero=>simp[DataW.trod]at h
 |succ fuel=>
  simp only[DataW.trod,ht,hce,hct,Nat.mul_one]at h;split at h
  ·obtain⟨ys,hm,hx⟩:=Option.map_eq_some_iff.1 h
   have hxs:ys.map (·.1)=xs.map fun b=>(DataW.lit (.string b):DataW H):=by
    have:=congrArg Prod.fst hx;simpa[zHy]using this
   have hyl:ys.length=n:=by simpa using Lib.mapM_length hm
   have hxl:xs.length=n:=by
    have:=congrArg List.length hxs;simp at this;omega
   have hi:i<n:=by
    have:=(List.getElem?_eq_some_iff.1 hib).1;omega
   obtain⟨y,hy,hf⟩:=Lib.mapM_at hm i i (by simp[hi]);obtain⟨s,hc,rfl,_⟩:=DataW.trod_string he hf
   have h1:cs[i]?=some (.string s):=by
    have:=congrArg (·[0]?) hc;simpa[List.getElem?_take,List.getElem?_drop]using this
   have h2:(ys.map (·.1))[i]?=some (DataW.lit (.string s.data.toList):DataW H):=by simp[hy]
   rw[hxs]at h2;simp only[List.getElem?_map,hib,Option.map_some,Option.some.injEq,DataW.lit.injEq,Lit.string.injEq]at h2;rw[h1,h2]
  ·cases h
theorem z9w{P:Program}{w:World}: ∀{l:List (String×DataW Unit)}{ps:List MemPlace},DataW.LaidVars P w l ps-> ∀x∈l,∃g t cs fuel p,P.globalNamed x.1=some g/\(P.globals[g]?).map (·.type)=some t/\w.var? P x.1=some cs/\DataW.trod (fun _=>()) P w 0 (fun _=>true) false fuel t cs.toList=some (x.2,p)
 |[],_,_,x,hx=>by cases hx
 |(n,d)::r,ps,h,x,hx=>by
  obtain⟨g,t,cs,fuel,p,q,h1,h2,h3,h4,h5,_⟩:=h;rcases List.mem_cons.1 hx with rfl|hx
  ·exact⟨g,t,cs,fuel,p,h1,h2,h3,h4⟩
  ·exact z9w h5 x hx
theorem zCz{P:Program}{w:World}{l:List (String×DataW Unit)}(h:laidMet P l w){name:String}{xs:List (List UInt8)}{g n:Nat}{t e:TypeId}(hx:(name,zHy xs)∈l)
  (hg:P.globalNamed name=some g)(hty:(P.globals[g]?).map (·.type)=some t)(ht:P.underlying t=some (.array n e))(he:P.underlying e=some .string)(hce:P.cellsOf e=1)(hct:P.cellsOf t=n):
  ∀(i:Nat)(b:List UInt8),xs[i]?=some b->w.cell? ⟨g,i,none⟩=some (.string ⟨b.toArray⟩):=by
 obtain⟨ps,hl,_⟩:=h;obtain⟨g',t',cs,fuel,p,h1,h2,h3,h4⟩:=z9w hl _ hx;obtain rfl:=Option.some.inj (hg.symm.trans h1);obtain rfl:=Option.some.inj (hty.symm.trans h2);intro i b hib;have h5:=zJd ht he hce hct h4 i b hib;have h6:=World.var?_cell hg h3 i;rw[h6, <-h5,Array.getElem?_toList]
theorem q54{w:World}{l:List (String×DataW Unit)}(h:laidMet tP l w)(hx:("internal/strconv.uint64pow10",Rows.laid_internal_strconv_uint64pow10)∈l):Lib.TabIs tP w "internal/strconv.uint64pow10" .u64 Lib.pow10Tab:=by
 obtain⟨ps,hl,_⟩:=h;obtain⟨g',t',cs,fuel,p,h1,h2,h3,h4⟩:=z9w hl _ hx;obtain rfl:=Option.some.inj (q3y.symm.trans h1);obtain rfl:=Option.some.inj ((show(Tryz.prog.globals[0]?).map (·.type)=some 214 by kernel_rfl).symm.trans h2);have h5:cs.toList=Lib.pow10Tab.map fun z=>Value.int .u64 z:=Lib.cells_of_tab (n:=20) (e:=182) Tryz.underlying214 Tryz.underlying182 kR kR (show DataW.trod (fun _=>()) tP w 0 (fun _=>true) false fuel 214 cs.toList=some (Lib.tabData .u64 Lib.pow10Tab,p)from h4);unfold Lib.TabIs;rw[h3, <-h5]
theorem zJv{ex:Ext}{w:World}{l:List (String×DataW Unit)}(h:laidMet tP l w)(h0:("internal/strconv.uint64pow10",Rows.laid_internal_strconv_uint64pow10)∈l)
  (h1:("gatehouse/asm.names",Rows.laid_gatehouse_asm_names)∈l)(h2:("gatehouse/asm.calls",Rows.laid_gatehouse_asm_calls)∈l)(hroom:11<=w.heap.size)(hx:ex.holds w):Tabs ex w:=by
 have e1:=zCz h (xs:=zGk) (g:=5) (n:=29) (t:=253) (e:=9) h1 kR kR Tryz.underlying253 Tryz.underlying9 kR kR;have e2:=zCz h (xs:=zHg) (g:=10) (n:=4) (t:=304) (e:=9) h2 kR kR Tryz.underlying304 Tryz.underlying9 kR kR;refine⟨hroom,fun i hi=>?_,fun i hi=>?_,q54 h h0,hx⟩
 ·exact e1 i _ (by rw[List.getD_eq_getElem?_getD,List.getElem?_eq_getElem (show i<zGk.length from hi)];rfl)
 ·exact e2 i _ (by rw[List.getD_eq_getElem?_getD,List.getElem?_eq_getElem (show i<zHg.length from hi)];rfl)
theorem rt:(Tryz.prog.cutTypes.find? (·.1== "internal/reflectlite.rtype")).map (·.2)=some 271:=kR
theorem oneRow:((List.range 350).filter fun t=>Tryz.prog.rowNamed t [101,114,114,111,114])=[29]:=kR
theorem ntypes:Tryz.prog.types.size=350:=kR
theorem et:Tryz.prog.globalNamed "errors.errorType" =some 1:=kR
theorem zTu{W:World}(h:handlesMet tP [("errors.errorType",Rows.laid_errors_errorType)] W):z0p W:=by
 obtain⟨name,u,ty,e1,e2,e3,e4,e5⟩:=h _ (List.mem_singleton.2 rfl);have en:name=[101,114,114,111,114]:=(Option.some.inj e1).symm;subst en;obtain rfl:=Option.some.inj (rt.symm.trans e2);have hm:ty∈(List.range 350).filter fun t=>Tryz.prog.rowNamed t [101,114,114,111,114]:=List.mem_filter.2 ⟨List.mem_range.2 (by rw[<-ntypes];exact e3),e4⟩;rw[oneRow]at hm;obtain rfl:=List.mem_singleton.1 hm;have hh:typeHandle tP 29= pT (some ⟨11,29,none⟩):=by kernel_rfl
 rw[hh]at e5;unfold z0p;simpa using World.var?_cell et e5 0
end Go.Proofs.YtkdflpplamebkaaGreatDoor
