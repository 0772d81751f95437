/-
A part of the proof of DeskPieces; its card says what is proved.
-/
import Derived.Test.YtkdflpplamebkaaGreatDoorJp12
import Derived.Test.YtkdflpplamebkaaGreatDoorJp6
set_option maxHeartbeats 40000000
open Go.Value renaming int → A
open Go.IntKind renaming i64 → F
open Go.RowKit.Below renaming alloc → bA, setCell → bS, drew → bD, refl → bF
set_option maxRecDepth 1000000
set_option linter.defProp false
set_option linter.unusedVariables false
set_option linter.unusedSimpArgs false
open Go.Ending renaming returned → rT
open Go.Value renaming pointer → pT
open Go.Obj renaming cells → cT
open Go.Proofs.Tryz renaming prog → tP
namespace Go.Proofs.YtkdflpplamebkaaGreatDoor
section
open Go.ChangeShapes Go.WideShapes Go.ChangeAt Go.RowKit
section
variable {a:Abs} {p v:Val} {o t:Int} {E:Int} {d:Nat}
theorem q1y(h:z1e p o=(t,E))(hE:E≠0):z5s a d p o=(E,a):=by unfold z5s;rw[h];exact if_pos hE
theorem zCk(h:z1e p o=(t,0)):z5s a d p o=if(a.at p t.toNat).k=0 then(8,a)else(0,a.putReg d (a.at p t.toNat)):=by
 unfold z5s;rw[h];exact if_neg kS
theorem zTg(h:z1e p o=(t,0))(hk:p.k=2):z5s a d p o=(0,a.putReg d ⟨1,a.word t.toNat,0⟩):=by
 have e:a.at p t.toNat=⟨1,a.word t.toNat,0⟩:=if_pos hk;rw[zCk h,e];exact if_neg (show¬(1:Int)=0 by decide)
theorem zTh(h:z1e p o=(t,0))(hk:p.k=3)(hn:(a.slot t.toNat).k≠0):z5s a d p o=(0,a.putReg d (a.slot t.toNat)):=by
 have e:a.at p t.toNat=a.slot t.toNat:=by unfold Abs.at;rw[if_neg kO,if_pos hk]
 rw[zCk h,e];exact if_neg hn
theorem zOa(h:z1e p o=(t,0))(hk:p.k=3)(hn:(a.slot t.toNat).k=0):z5s a d p o=(8,a):=by
 have e:a.at p t.toNat=a.slot t.toNat:=by unfold Abs.at;rw[if_neg kO,if_pos hk]
 rw[zCk h,e];exact if_pos hn
theorem zTi(h:z1e p o=(t,0))(hk:p.k=4):z5s a d p o=(0,a.putReg d ⟨1,a.cel (p.c.toNat*4+t.toNat),0⟩):=by
 have e:a.at p t.toNat=⟨1,a.cel (p.c.toNat*4+t.toNat),0⟩:=by unfold Abs.at;rw[if_neg kO,if_neg kO];rfl
 rw[zCk h,e];exact if_neg (show¬(1:Int)=0 by decide)
theorem zVq(h:z1e p o=(t,E))(hE:E≠0):z4b a p v o=(E,a):=by unfold z4b;rw[h];exact if_pos hE
theorem zVr(h:z1e p o=(t,0)):z4b a p v o=if p.k=2 then(6,a)else if v.k=0 then(8,a)else if p.k=3 then(0,a.putSlot t.toNat v)else if v.k≠1 then(1,a)else(0,a.putCel (p.c.toNat*4+t.toNat) v.n):=by
 unfold z4b;rw[h];exact if_neg kS
end
def Res(B:Nat)(w w':World)(m:Mac)(E:Int)(a:Abs):Prop:=
 Below B w w'/\ ∃m' L',z0b w' B m'/\z1t w' B m'.out L'/\m'.step=m.step/\m'.steps=m.steps/\(E=0->m'.abs L'=a)
theorem Res.of_kept{B:Nat}{w w':World}{m m':Mac}{L:List Int}{E:Int}{a:Abs}(hM:z0b w B m)(hO:z1t w B m.out L)(hk:Kept B w w')(hm:z0b w' B m')(ho:m'.out=m.out)(h1:m'.step=m.step)(h2:m'.steps=m.steps)(ha:E=0->m'.abs L=a):Res B w w' m E a:=
 ⟨z3h hk hM.lt,m',L,hm,by rw[ho];exact hO.kept hk,h1,h2,ha⟩
theorem Res.of_below{B:Nat}{w w':World}{m:Mac}{L:List Int}{E:Int}{a:Abs}(hM:z0b w B m)(hO:z1t w B m.out L)(hb:Below w.heap.size w w')(ha:E=0->m.abs L=a):Res B w w' m E a:=
 Res.of_kept hM hO (z0d hb B) (hM.later hb) rfl rfl rfl ha
section
variable {B d s:Nat} {c o n:Int} {r:Bool} {m:Mac} {L:List Int} {w:World}
theorem q71(hd:d<11)(hs:s<11)(hM:z0b w B m):
  zR 151 #[pT (some ⟨B,0,none⟩),.agg #[A F c,A F d,A F s,.bool r,A F o,A F n]] w (.tuple #[A F (askF c (m.reg d) (m.second s r n) r o n).1,A F (askF c (m.reg d) (m.second s r n) r o n).2]):=by
 rcases h1:m.reg d with⟨ak,an,ac⟩
 rcases h2:m.second s r n with⟨bk,bn,bc⟩
 exact q70 B d s c o n r m hd hs ak an ac bk bn bc h1 h2 w hM
theorem q1w(hd:d<11)(hs:s<11)(hM:z0b w B m)(hO:z1t w B m.out L)(hok:(m.abs L).Ok):
  Calls tP 152 #[pT (some ⟨B,0,none⟩),.agg #[A F c,A F d,A F s,.bool r,A F o,A F n]] w fun e w'=>e= rT (A F (z5s (m.abs L) d (m.reg s) o).1)/\Res B w w' m (z5s (m.abs L) d (m.reg s) o).1 (z5s (m.abs L) d (m.reg s) o).2:=by
 have hp:(m.reg s).Ok:=hok.reg s hs;rcases h1:m.reg s with⟨fk,fn,fc⟩
 rw[h1]at hp;have k0:0<=fk:=hp.k0;have k4:fk<=4:=hp.k4;rcases h2:z1e ⟨fk,fn,fc⟩ o with⟨t,E⟩
 by_cases hE:E=0
 ·subst hE
  have hr:(z1e ⟨fk,fn,fc⟩ o).2=0:=by rw[h2]
  have hb:=zIa hr;have hi:2<=fk\/fk<0:=zQ4 hr;rw[h2]at hb;obtain⟨j,rfl⟩:=Int.eq_ofNat_of_zero_le hb.1;have hj:=hb.2;unfold z3u at hj
  by_cases hk2:fk=2
  ·rw[if_pos hk2]at hj
   rw[zTg h2 hk2];exact(zXh B d s j c o n r m hd hs fk fn fc h1 (by show j<8;omega) h2 (by simpa using hk2) w hM).mono fun e w' ⟨he,hk,hm⟩=>⟨he,Res.of_kept hM hO hk hm rfl rfl rfl fun _=>rfl⟩
  rw[if_neg hk2]at hj
  by_cases hk3:fk=3
  ·rw[if_pos hk3]at hj
   rcases h3:m.slot j with⟨sk,sn,sc⟩
   by_cases hsk:sk=0
   ·rw[zOa h2 hk3 (by show(m.slot j).k=0;rw[h3];exact hsk)]
    exact(zTe B d s j c o n r m hd hs fk fn fc h1 (by show j<16;omega) h2 (by simpa using hk2) (by simpa using hk3) sk sn sc h3 (by simpa using hsk) w hM).mono fun e w' ⟨he,hb⟩=>⟨he,Res.of_below hM hO hb fun h=>absurd h kS⟩
   ·rw[zTh h2 hk3 (by show(m.slot j).k≠0;rw[h3];exact hsk)]
    exact(zXi B d s j c o n r m hd hs fk fn fc h1 (by show j<16;omega) h2 (by simpa using hk2) (by simpa using hk3) sk sn sc h3 (by simpa using hsk) w hM).mono fun e w' ⟨he,hk,hm⟩=>⟨he,Res.of_kept hM hO hk hm rfl rfl rfl fun _=>by show _=(m.abs L).putReg d (m.slot j);rw[h3];rfl⟩
  rw[if_neg hk3]at hj;have hk4:fk=4:=kO;obtain⟨q,hq⟩:=Int.eq_ofNat_of_zero_le hp.c0;have hq':fc=(q:Int):=hq;subst hq';have hq3:(q:Int)<=3:=hp.c3;rw[zTi h2 hk4];exact(zXj B d s j q c o n r m hd hs fk fn h1 kO (by show j<4;omega) h2 (by simpa using hk2) (by simpa using hk3) (by simpa using hk4) w hM).mono fun e w' ⟨he,hk,hm⟩=>⟨he,Res.of_kept hM hO hk hm rfl rfl rfl fun _=>rfl⟩
 rw[q1y h2 hE];exact(q5q B d s c o n r m hd hs fk fn fc h1 t E h2 (by simpa using hE) w hM).mono fun e w' ⟨he,hb⟩=>⟨he,Res.of_below hM hO hb fun h=>absurd h hE⟩
theorem zVo(hd:d<11)(hs:s<11)(hM:z0b w B m)(hO:z1t w B m.out L)(hok:(m.abs L).Ok):
  Calls tP 153 #[pT (some ⟨B,0,none⟩),.agg #[A F c,A F d,A F s,.bool r,A F o,A F n]] w fun e w'=>e= rT (A F (z4b (m.abs L) (m.reg d) (m.second s r n) o).1)/\Res B w w' m (z4b (m.abs L) (m.reg d) (m.second s r n) o).1 (z4b (m.abs L) (m.reg d) (m.second s r n) o).2:=by
 have hp:(m.reg d).Ok:=hok.reg d hd;rcases h1:m.reg d with⟨fk,fn,fc⟩
 rcases hv:m.second s r n with⟨bk,bn,bc⟩
 rw[h1]at hp;have k0:0<=fk:=hp.k0;have k4:fk<=4:=hp.k4;rcases h2:z1e ⟨fk,fn,fc⟩ o with⟨t,E⟩
 by_cases hE:E=0
 ·subst hE
  have hr:(z1e ⟨fk,fn,fc⟩ o).2=0:=by rw[h2]
  have hb:=zIa hr;have hi:2<=fk\/fk<0:=zQ4 hr;rw[h2]at hb;obtain⟨j,rfl⟩:=Int.eq_ofNat_of_zero_le hb.1;have hj:=hb.2;unfold z3u at hj;rw[zVr h2]
  by_cases hk2:fk=2
  ·rw[if_pos hk2]
   exact(zS6 B d s j c o n r m hd hs fk fn fc bk bn bc h1 hv h2 (by simpa using hk2) w hM).mono fun e w' ⟨he,hb⟩=>⟨he,Res.of_below hM hO hb fun h=>absurd h kS⟩
  rw[if_neg hk2]at hj⊢
  by_cases hb0:bk=0
  ·rw[if_pos hb0]
   exact(zS8 B d s j c o n r m hd hs fk fn fc bk bn bc h1 hv h2 (by simpa using hk2) (by simpa using hb0) w hM).mono fun e w' ⟨he,hb⟩=>⟨he,Res.of_below hM hO hb fun h=>absurd h kS⟩
  rw[if_neg hb0]
  by_cases hk3:fk=3
  ·rw[if_pos hk3]at hj⊢
   exact(zS7 B d s j c o n r m hd hs fk fn fc bk bn bc h1 hv h2 (by show j<16;omega) (by simpa using hk2) (by simpa using hb0) (by simpa using hk3) w hM).mono fun e w' ⟨he,hk,hm⟩=>⟨he,Res.of_kept hM hO hk hm rfl rfl rfl fun _=>rfl⟩
  rw[if_neg hk3]at hj⊢
  by_cases hb1:bk=1
  ·rw[if_neg (by simpa using hb1)]
   obtain⟨q,hq⟩:=Int.eq_ofNat_of_zero_le hp.c0;have hq':fc=(q:Int):=hq;subst hq';have hq3:(q:Int)<=3:=hp.c3;exact(zS9 B d s j q c o n r m hd hs fk fn bk bn bc h1 hv h2 (by show j<4;omega) kO (by simpa using hk2) (by simpa using hb0) (by simpa using hk3) (by simpa using hb1) w hM).mono fun e w' ⟨he,hk,hm⟩=>⟨he,Res.of_kept hM hO hk hm rfl rfl rfl fun _=>rfl⟩
  ·rw[if_pos hb1]
   exact(zVn B d s j c o n r m hd hs fk fn fc bk bn bc h1 hv h2 (by simpa using hk2) (by simpa using hb0) (by simpa using hk3) (by simpa using hb1) w hM).mono fun e w' ⟨he,hb⟩=>⟨he,Res.of_below hM hO hb fun h=>absurd h kS⟩
 rw[zVq h2 hE];exact(q0v B d s c o n r m hd hs fk fn fc bk bn bc h1 hv t E h2 (by simpa using hE) w hM).mono fun e w' ⟨he,hb⟩=>⟨he,Res.of_below hM hO hb fun h=>absurd h hE⟩
theorem q37(hn:n=1\/n=2\/n=3)(hM:z0b w B m)(hO:z1t w B m.out L):
  Calls tP 154 #[pT (some ⟨B,0,none⟩),A F n] w fun e w'=>e= rT (A F (z8w (m.abs L) n).1)/\Res B w w' m (z8w (m.abs L) n).1 (z8w (m.abs L) n).2:=by
 rcases h1:m.reg 1 with⟨fk,fn,fc⟩
 have h1':(m.abs L).reg 1=⟨fk,fn,fc⟩:=h1;unfold z8w;rw[h1'];rcases hn with rfl|rfl|rfl
 ·by_cases hw:z3a ⟨fk,fn,fc⟩=0
  ·rw[if_neg (by simp[hw]),if_pos rfl]
   rcases hf:zEg fn with⟨rk,rn,rc⟩
   exact(zZ5 B m fk fn fc h1 hw rk rn rc hf w hM).mono fun e w' ⟨he,hk,hm⟩=>⟨he,Res.of_kept hM hO hk hm rfl rfl rfl fun _=>rfl⟩
  ·rw[if_pos ⟨by decide,hw⟩]
   exact(q36 B m fk fn fc h1 _ rfl (by simpa using hw) w hM).mono fun e w' ⟨he,hb⟩=>⟨he,Res.of_below hM hO hb fun h=>absurd h hw⟩
 ·rw[if_neg kS,if_neg kD,if_pos rfl]
  exact(zZ4 B m fk fn fc h1 w hM).mono fun e w' ⟨he,hk,hm⟩=>⟨he,Res.of_kept hM hO hk hm rfl rfl rfl fun _=>rfl⟩
 by_cases hw:z3a ⟨fk,fn,fc⟩=0
 ·rw[if_neg (by simp[hw]),if_neg kD,if_neg kD]
  exact(zZ6 B m fk fn fc h1 L hw w hM hO).mono fun e w' ⟨he,hb,v',hm,ho⟩=>⟨he,hb,_,_,hm,ho,rfl,rfl,fun _=>rfl⟩
 rw[if_pos ⟨by decide,hw⟩];exact(q35 B m fk fn fc h1 _ rfl (by simpa using hw) w hM).mono fun e w' ⟨he,hb⟩=>⟨he,Res.of_below hM hO hb fun h=>absurd h hw⟩
theorem zUb(hd:d<11)(hs:s<11)(hn:In64 n)(hM:z0b w B m)(hO:z1t w B m.out L)(hok:(m.abs L).Ok):
  Calls tP 155 #[pT (some ⟨B,0,none⟩),.agg #[A F c,A F d,A F s,.bool r,A F o,A F n]] w fun e w'=>e= rT (A F (z3s c (m.reg d) (m.second s r n)).2)/\Res B w w' m (z3s c (m.reg d) (m.second s r n)).2 ((m.abs L).putReg d (z3s c (m.reg d) (m.second s r n)).1):=by
 have h2:(m.second s r n).Ok:=hok.second hs r hn;rcases hm:z3s c (m.reg d) (m.second s r n)with⟨⟨mk,mn,mc⟩,E⟩
 exact(zUa B d s c o n r m hd hs h2.n.1 h2.n.2 mk mn mc E hm w hM).mono fun e w' ⟨he,hk,hm⟩=>⟨he,Res.of_kept hM hO hk hm rfl rfl rfl fun _=>rfl⟩
end
end
section
open Go.ChangeShapes Go.WideShapes Go.ChangeAt Go.RowKit
attribute [local simp] z05 z0a z06
theorem q0p{w w1:World}{Z:Obj}(h:Below (w.alloc Z).heap.size (w.alloc Z) w1):Below w.heap.size w w1:=
 ((bF _ _).alloc (Nat.le_refl _) _).trans (h.mono kS)
theorem do_ask(B d s:Nat)(c o n:Int)(r:Bool)(m:Mac)(L:List Int)(hd:d<11)(hs:s<11)(w:World)(hM:z0b w B m)(hO:z1t w B m.out L)(h1:15<=c)(h2:c<=24):
  zR 119 #[pT (some ⟨B,0,none⟩),.agg #[A F c,A F d,A F s,.bool r,A F o,A F n]] w (.tuple #[A F (askF c (m.reg d) (m.second s r n) r o n).1,A F (askF c (m.reg d) (m.second s r n) r o n).2]):=by
 have hM0:=hM.alloc (cT #[A F c,A F d,A F s,.bool r,A F o,A F n] 135);have hO0:z1t (w.alloc (cT #[A F c,A F d,A F s,.bool r,A F o,A F n] 135)) B m.out L:=hO.kept (z1l (z1b B w) _);have HO:Hid (z1t w B m.out L):=hO;have HO0:Hid (z1t _ B m.out L):=hO0;clear hO hO0;have HQ:Hid ((decide (15<=c)&&decide (c<=24))=true):=by show(decide (15<=c)&&decide (c<=24))=true;simp;omega
 rcases hA:askF c (m.reg d) (m.second s r n) r o n with⟨X,Y⟩
 have HA:Hid (askF c (m.reg d) (m.second s r n) r o n=(X,Y)):=hA;clear hA h1 h2;go_enter Tryz.func119,Tryz.ntmps119
 go_wp2_with(first
  |(go_at_call 139;refine(z3i c _).mono ?_;rintro e w1 ⟨rfl,rfl⟩;rw[HQ.out])
  |(go_at_call 151;refine(q71 hd hs hM0).mono ?_;rintro e w2 ⟨rfl,hb2⟩;rw[HA.out])
  |fail)
 go_ret2
 exact⟨rfl,q0p hb2⟩
theorem q6c(B d s:Nat)(c o n:Int)(r:Bool)(m:Mac)(L:List Int)(_:d<11)(_:s<11)(w:World)(hM:z0b w B m)(hO:z1t w B m.out L)(h1:c=14):
  zR 119 #[pT (some ⟨B,0,none⟩),.agg #[A F c,A F d,A F s,.bool r,A F o,A F n]] w (.tuple #[A F o,A F 0]):=by
 have hM0:=hM.alloc (cT #[A F c,A F d,A F s,.bool r,A F o,A F n] 135);have hO0:z1t (w.alloc (cT #[A F c,A F d,A F s,.bool r,A F o,A F n] 135)) B m.out L:=hO.kept (z1l (z1b B w) _);have HO:Hid (z1t w B m.out L):=hO;have HO0:Hid (z1t _ B m.out L):=hO0;clear hO hO0;have HQ:Hid ((decide (15<=c)&&decide (c<=24))=false):=by show(decide (15<=c)&&decide (c<=24))=false;simp;omega
 have x14:(c==14)=true:=kZ;clear h1;go_enter Tryz.func119,Tryz.ntmps119
 go_wp2_with(first
  |(go_at_call 139;refine(z3i c _).mono ?_;rintro e w1 ⟨rfl,rfl⟩;rw[HQ.out])
  |fail)
 go_ret2
 exact⟨rfl,(bF _ _).alloc (Nat.le_refl _) _⟩
theorem q6b(B d s:Nat)(c o n:Int)(r:Bool)(m:Mac)(L:List Int)(hd:d<11)(hs:s<11)(w:World)(hM:z0b w B m)(hO:z1t w B m.out L)(hok:(m.abs L).Ok)(h1:c=25):
  Calls tP 119 #[pT (some ⟨B,0,none⟩),.agg #[A F c,A F d,A F s,.bool r,A F o,A F n]] w fun e w'=>e= rT (.tuple #[A F 0,A F (z5s (m.abs L) d (m.reg s) o).1])/\Res B w w' m (z5s (m.abs L) d (m.reg s) o).1 (z5s (m.abs L) d (m.reg s) o).2:=by
 have hM0:=hM.alloc (cT #[A F c,A F d,A F s,.bool r,A F o,A F n] 135);have hO0:z1t (w.alloc (cT #[A F c,A F d,A F s,.bool r,A F o,A F n] 135)) B m.out L:=hO.kept (z1l (z1b B w) _);have HO:Hid (z1t w B m.out L):=hO;have HO0:Hid (z1t _ B m.out L):=hO0;clear hO hO0;have HQ:Hid ((decide (15<=c)&&decide (c<=24))=false):=by show(decide (15<=c)&&decide (c<=24))=false;simp;omega
 have x14:(c==14)=false:=kZ;have x25:(c==25)=true:=kZ;clear h1;obtain⟨E,hE⟩: ∃E,(z5s (m.abs L) d (m.reg s) o).1=E:=⟨_,rfl⟩;have HE:Hid ((z5s (m.abs L) d (m.reg s) o).1=E):=hE;clear hE;go_enter Tryz.func119,Tryz.ntmps119
 go_wp2_with(first
  |(go_at_call 139;refine(z3i c _).mono ?_;rintro e w1 ⟨rfl,rfl⟩;rw[HQ.out])
  |(go_at_call 152;refine(q1w hd hs hM0 HO0.out hok).mono ?_;rintro e w2 ⟨rfl,hr2⟩;have HR2:Hid (Res B _ w2 m (z5s (m.abs L) d (m.reg s) o).1 (z5s (m.abs L) d (m.reg s) o).2):=hr2;clear hr2;rw[HE.out])
  |fail)
 go_ret2
 exact⟨by rw[HE.out];rfl,((bF _ _).alloc (by have:=hM.lt;omega) _).trans HR2.out.1,HR2.out.2⟩
theorem q2v(B d s:Nat)(c o n:Int)(r:Bool)(m:Mac)(L:List Int)(hd:d<11)(hs:s<11)(w:World)(hM:z0b w B m)(hO:z1t w B m.out L)(hok:(m.abs L).Ok)(h1:c=26):
  Calls tP 119 #[pT (some ⟨B,0,none⟩),.agg #[A F c,A F d,A F s,.bool r,A F o,A F n]] w fun e w'=>e= rT (.tuple #[A F 0,A F (z4b (m.abs L) (m.reg d) (m.second s r n) o).1])/\Res B w w' m (z4b (m.abs L) (m.reg d) (m.second s r n) o).1 (z4b (m.abs L) (m.reg d) (m.second s r n) o).2:=by
 have hM0:=hM.alloc (cT #[A F c,A F d,A F s,.bool r,A F o,A F n] 135);have hO0:z1t (w.alloc (cT #[A F c,A F d,A F s,.bool r,A F o,A F n] 135)) B m.out L:=hO.kept (z1l (z1b B w) _);have HO:Hid (z1t w B m.out L):=hO;have HO0:Hid (z1t _ B m.out L):=hO0;clear hO hO0;have HQ:Hid ((decide (15<=c)&&decide (c<=24))=false):=by show(decide (15<=c)&&decide (c<=24))=false;simp;omega
 have x14:(c==14)=false:=kZ;have x25:(c==25)=false:=kZ;have x26:(c==26)=true:=kZ;clear h1;obtain⟨E,hE⟩: ∃E,(z4b (m.abs L) (m.reg d) (m.second s r n) o).1=E:=⟨_,rfl⟩;have HE:Hid ((z4b (m.abs L) (m.reg d) (m.second s r n) o).1=E):=hE;clear hE;go_enter Tryz.func119,Tryz.ntmps119
 go_wp2_with(first
  |(go_at_call 139;refine(z3i c _).mono ?_;rintro e w1 ⟨rfl,rfl⟩;rw[HQ.out])
  |(go_at_call 153;refine(zVo hd hs hM0 HO0.out hok).mono ?_;rintro e w2 ⟨rfl,hr2⟩;have HR2:Hid (Res B _ w2 m (z4b (m.abs L) (m.reg d) (m.second s r n) o).1 (z4b (m.abs L) (m.reg d) (m.second s r n) o).2):=hr2;clear hr2;rw[HE.out])
  |fail)
 go_ret2
 exact⟨by rw[HE.out];rfl,((bF _ _).alloc (by have:=hM.lt;omega) _).trans HR2.out.1,HR2.out.2⟩
theorem q6d(B d s:Nat)(c o n:Int)(r:Bool)(m:Mac)(L:List Int)(_:d<11)(_:s<11)(w:World)(hM:z0b w B m)(hO:z1t w B m.out L)(_:(m.abs L).Ok)(HN:Hid (n=1\/n=2\/n=3))(h1:c=27):
  Calls tP 119 #[pT (some ⟨B,0,none⟩),.agg #[A F c,A F d,A F s,.bool r,A F o,A F n]] w fun e w'=>e= rT (.tuple #[A F 0,A F (z8w (m.abs L) n).1])/\Res B w w' m (z8w (m.abs L) n).1 (z8w (m.abs L) n).2:=by
 have hM0:=hM.alloc (cT #[A F c,A F d,A F s,.bool r,A F o,A F n] 135);have hO0:z1t (w.alloc (cT #[A F c,A F d,A F s,.bool r,A F o,A F n] 135)) B m.out L:=hO.kept (z1l (z1b B w) _);have HO:Hid (z1t w B m.out L):=hO;have HO0:Hid (z1t _ B m.out L):=hO0;clear hO hO0;have HQ:Hid ((decide (15<=c)&&decide (c<=24))=false):=by show(decide (15<=c)&&decide (c<=24))=false;simp;omega
 have x14:(c==14)=false:=kZ;have x25:(c==25)=false:=kZ;have x26:(c==26)=false:=kZ;have x27:(c==27)=true:=kZ;clear h1;obtain⟨E,hE⟩: ∃E,(z8w (m.abs L) n).1=E:=⟨_,rfl⟩;have HE:Hid ((z8w (m.abs L) n).1=E):=hE;clear hE;go_enter Tryz.func119,Tryz.ntmps119
 go_wp2_with(first
  |(go_at_call 139;refine(z3i c _).mono ?_;rintro e w1 ⟨rfl,rfl⟩;rw[HQ.out])
  |(go_at_call 154;refine(q37 HN.out hM0 HO0.out).mono ?_;rintro e w2 ⟨rfl,hr2⟩;have HR2:Hid (Res B _ w2 m (z8w (m.abs L) n).1 (z8w (m.abs L) n).2):=hr2;clear hr2;rw[HE.out])
  |fail)
 go_ret2
 exact⟨by rw[HE.out];rfl,((bF _ _).alloc (by have:=hM.lt;omega) _).trans HR2.out.1,HR2.out.2⟩
theorem zYh(B d s:Nat)(c o n:Int)(r:Bool)(m:Mac)(L:List Int)(hd:d<11)(hs:s<11)(w:World)(hM:z0b w B m)(hO:z1t w B m.out L)(hok:(m.abs L).Ok)(HN:Hid (In64 n))(h1:1<=c)(h2:c<=13):
  Calls tP 119 #[pT (some ⟨B,0,none⟩),.agg #[A F c,A F d,A F s,.bool r,A F o,A F n]] w fun e w'=>e= rT (.tuple #[A F 0,A F (z3s c (m.reg d) (m.second s r n)).2])/\Res B w w' m (z3s c (m.reg d) (m.second s r n)).2 ((m.abs L).putReg d (z3s c (m.reg d) (m.second s r n)).1):=by
 have hM0:=hM.alloc (cT #[A F c,A F d,A F s,.bool r,A F o,A F n] 135);have hO0:z1t (w.alloc (cT #[A F c,A F d,A F s,.bool r,A F o,A F n] 135)) B m.out L:=hO.kept (z1l (z1b B w) _);have HO:Hid (z1t w B m.out L):=hO;have HO0:Hid (z1t _ B m.out L):=hO0;clear hO hO0;have HQ:Hid ((decide (15<=c)&&decide (c<=24))=false):=by show(decide (15<=c)&&decide (c<=24))=false;simp;omega
 have x14:(c==14)=false:=kZ;have x25:(c==25)=false:=kZ;have x26:(c==26)=false:=kZ;have x27:(c==27)=false:=kZ;clear h1 h2;obtain⟨E,hE⟩: ∃E,(z3s c (m.reg d) (m.second s r n)).2=E:=⟨_,rfl⟩;have HE:Hid ((z3s c (m.reg d) (m.second s r n)).2=E):=hE;clear hE;go_enter Tryz.func119,Tryz.ntmps119
 go_wp2_with(first
  |(go_at_call 139;refine(z3i c _).mono ?_;rintro e w1 ⟨rfl,rfl⟩;rw[HQ.out])
  |(go_at_call 155;refine(zUb hd hs HN.out hM0 HO0.out hok).mono ?_;rintro e w2 ⟨rfl,hr2⟩;have HR2:Hid (Res B _ w2 m (z3s c (m.reg d) (m.second s r n)).2 ((m.abs L).putReg d (z3s c (m.reg d) (m.second s r n)).1)):=hr2;clear hr2;rw[HE.out])
  |fail)
 go_ret2
 exact⟨by rw[HE.out];rfl,((bF _ _).alloc (by have:=hM.lt;omega) _).trans HR2.out.1,HR2.out.2⟩
theorem q4d(B d s:Nat)(c o n:Int)(r:Bool)(m:Mac)(L:List Int)(hd:d<11)(hs:s<11)(w:World)(hM:z0b w B m)(hO:z1t w B m.out L)(hok:(m.abs L).Ok)(hn:In64 n)(c1:1<=c)(c2:c<=28)(hc:c≠28)(h27:c=27->n=1\/n=2\/n=3):
  Calls tP 119 #[pT (some ⟨B,0,none⟩),.agg #[A F c,A F d,A F s,.bool r,A F o,A F n]] w fun e w'=>e= rT (.tuple #[A F (doF c d s r o n (m.abs L)).1,A F (doF c d s r o n (m.abs L)).2.1])/\Res B w w' m (doF c d s r o n (m.abs L)).2.1 (doF c d s r o n (m.abs L)).2.2:=by
 unfold doF;rw[Int.toNat_natCast,Int.toNat_natCast]
 by_cases h1:15<=c/\c<=24
 ·rw[if_pos h1]
  exact(do_ask B d s c o n r m L hd hs w hM hO h1.1 h1.2).mono fun e w' ⟨he,hb⟩=>⟨he,Res.of_below hM hO hb fun _=>rfl⟩
 rw[if_neg h1]
 by_cases h2:c=14
 ·rw[if_pos h2]
  exact(q6c B d s c o n r m L hd hs w hM hO h2).mono fun e w' ⟨he,hb⟩=>⟨he,Res.of_below hM hO hb fun _=>rfl⟩
 rw[if_neg h2]
 by_cases h3:c=25
 ·rw[if_pos h3]
  exact q6b B d s c o n r m L hd hs w hM hO hok h3
 rw[if_neg h3]
 by_cases h4:c=26
 ·rw[if_pos h4]
  exact q2v B d s c o n r m L hd hs w hM hO hok h4
 rw[if_neg h4]
 by_cases h5:c=27
 ·rw[if_pos h5]
  exact q6d B d s c o n r m L hd hs w hM hO hok (h27 h5) h5
 rw[if_neg h5];exact zYh B d s c o n r m L hd hs w hM hO hok hn c1 kO
end
section
open Go.RowKit
structure zUm (c d s:Int) (r:Bool) (o n:Int) (len k:Nat):Prop where
 c1:1<=c
 c2:c<=28
 d1:0<=d
 d2:d<=10
 s1:0<=s
 s2:s<=10
 call:c=27->n=1\/n=2\/n=3
 exit:c=28->d=0
 lead:(c=14\/(15<=c/\c<=24))->0<=o/\o<(len:Int)-1-k
 last:c≠28->(k:Int)+1≠len
theorem z8e{len:Nat}{C D S:Nat->Int}{R:Nat->Bool}{O N:Nat->Int}{k:Nat}(h:z32 len C D S R O N k=0):zUm (C k) (D k) (S k) (R k) (O k) (N k) len k:=by
 unfold z32 z4l at h
 have ha:z3k (C k) (D k) (S k) (R k) (O k) (N k)=0:=by
  by_cases e:z3k (C k) (D k) (S k) (R k) (O k) (N k)=0
  ·exact e
  ·rw[if_pos e]at h;exact h
 rw[if_neg (by simp[ha])]at h
 have hl: ¬((C k=14\/(15<=C k/\C k<=24))/\(O k<0\/(len:Int)-1-k<=O k)):=by
  intro e;rw[if_pos e]at h;exact absurd h kD
 rw[if_neg hl]at h
 have he: ¬((len:Int)-1-k=0/\C k≠28):=by
  intro e;rw[if_pos e]at h;exact absurd h kD
 unfold z3k at ha
 have a1: ¬(C k<1\/28<C k):=by
  intro e;rw[if_pos e]at ha;exact absurd ha kD
 rw[if_neg a1]at ha
 have a2: ¬(D k<0\/10<D k\/S k<0\/10<S k):=by
  intro e;rw[if_pos e]at ha;exact absurd ha kD
 rw[if_neg a2]at ha
 have a3: ¬(((1<=C k/\C k<=13)\/C k=25)/\D k=10):=by
  intro e;rw[if_pos e]at ha;exact absurd ha kD
 rw[if_neg a3]at ha
 have a4: ¬(z4s (C k) (D k) (S k) (R k) (O k) (N k)=true\/(C k=27/\N k≠1/\N k≠2/\N k≠3)):=by
  intro e;rw[if_pos e]at ha;exact absurd ha kD
 refine⟨by omega,by omega,by omega,by omega,by omega,by omega,fun e=>?_,fun e=>?_,fun e=>?_,fun e=>by omega⟩
 ·by_cases n1:N k=1
  ·exact Or.inl n1
  by_cases n2:N k=2
  ·exact Or.inr (Or.inl n2)
  by_cases n3:N k=3
  ·exact Or.inr (Or.inr n3)
  exact absurd (Or.inr ⟨e,n1,n2,n3⟩) a4
 ·by_cases hd:D k=0
  ·exact hd
  ·refine absurd (Or.inl ?_) a4
   unfold z4s;rw[if_neg kO,if_neg kO,if_neg kO,if_neg kO,if_neg kO,if_neg kO,if_neg kO];simp[hd]
 by_cases e1:O k<0\/(len:Int)-1-k<=O k
 ·exact absurd ⟨e,e1⟩ hl
 omega
theorem askF_off(c:Int)(a b:Val)(r:Bool)(o n:Int):(askF c a b r o n).1=o\/(askF c a b r o n).1=0:=by
 unfold askF;split
 ·exact Or.inr rfl
 split
 ·split
  ·exact Or.inl rfl
  ·exact Or.inr rfl
 split
 ·exact Or.inr rfl
 split
 ·exact Or.inl rfl
 exact Or.inr rfl
theorem q6e{c d s:Int}{r:Bool}{o n:Int}{len k:Nat}(h:zUm c d s r o n len k)(hk:k<len)(hc:c≠28)(a:Abs):0<=(doF c d s r o n a).1/\(k:Int)+1+(doF c d s r o n a).1<len:=by
 have hl:=h.last hc;unfold doF
 by_cases h1:15<=c/\c<=24
 ·rw[if_pos h1]
  have:=h.lead (Or.inr h1);rcases askF_off c (a.reg d.toNat) (a.second s.toNat r n) r o n with e|e
  ·show 0<=(askF _ _ _ _ _ _).1/\(k:Int)+1+(askF _ _ _ _ _ _).1<len
   rw[e];omega
  ·show 0<=(askF _ _ _ _ _ _).1/\(k:Int)+1+(askF _ _ _ _ _ _).1<len
   rw[e];omega
 rw[if_neg h1]
 by_cases h2:c=14
 ·rw[if_pos h2]
  have:=h.lead (Or.inl h2);show 0<=o/\(k:Int)+1+o<len;omega
 rw[if_neg h2];split
 ·show(0:Int)<=0/\(k:Int)+1+0<len
  omega
 split
 ·show(0:Int)<=0/\(k:Int)+1+0<len
  omega
 split
 ·show(0:Int)<=0/\(k:Int)+1+0<len
  omega
 show(0:Int)<=0/\(k:Int)+1+0<len;omega
end
section
open Go.ChangeShapes Go.WideShapes Go.ChangeAt Go.RowKit
attribute [local simp] z05 z0a z06
def Gone(B:Nat)(w w':World)(X:End)(E:Int):Prop:=
 Below B w w'/\ ∃m' L',z0b w' B m'/\z1t w' B m'.out L'/\
  match X with
  | .inl (e,p)=>E=e/\E≠0/\m'.step=(p:Int)
  | .inr (n,k,a)=>E=0/\m'.steps=(k:Int)/\m'.abs L'=a/\n=(a.reg 0).n
def zDp(B:Nat)(w:World):Nat:=(intOf ((w.cell? ⟨B,0,none⟩).getD (A F 0))).toNat
theorem z1v.under{w wr:World}{B bk off len:Nat}{C D S:Nat->Int}{R:Nat->Bool}{O N:Nat->Int}(h:z1v w bk off len C D S R O N)(hb:Below B w wr)(hbk:bk<B):z1v wr bk off len C D S R O N:=by
 intro i hi;obtain⟨a,b,c,d,e,f⟩:=h i hi;exact⟨(hb.cell (p:=⟨bk,_,none⟩) hbk).trans a,(hb.cell (p:=⟨bk,_,none⟩) hbk).trans b,(hb.cell (p:=⟨bk,_,none⟩) hbk).trans c,(hb.cell (p:=⟨bk,_,none⟩) hbk).trans d,(hb.cell (p:=⟨bk,_,none⟩) hbk).trans e,(hb.cell (p:=⟨bk,_,none⟩) hbk).trans f⟩
theorem zBr{B:Nat}{w:World}{m:Mac}(h:z0b w B m):zDp B w=m.step.toNat:=by unfold zDp;rw[h.step];rfl
section
variable (B bk off len cap:Nat) (C D S O N:Nat->Int) (R:Nat->Bool)
theorem zQp(m:Mac)(L:List Int)(w:World)(hM:z0b w B m)(hO:z1t w B m.out L)(hok:(m.abs L).Ok)(hst:z1v w bk off len C D S R O N)(hbk:bk<B)(hlen:len<=200)(h1:1<=len)(hR: ∀k,k<len->z32 len C D S R O N k=0)(hN: ∀k,k<len->In64 (N k))(h0:m.step=0)(h00:m.steps=0):
  Calls tP 94 #[pT (some ⟨B,0,none⟩),.slice (some ⟨bk,off,none⟩) len cap] w fun e w'=> ∃E,e= rT (A F E)/\Gone B w w' (runF C D S R O N len 0 0 (m.abs L)) E:=by
 obtain⟨X,hX⟩: ∃X,runF C D S R O N len 0 0 (m.abs L)=X:=⟨_,rfl⟩;rw[hX];have HX:Hid (runF C D S R O N len 0 0 (m.abs L)=X):=hX;have HST:Hid (z1v w bk off len C D S R O N):=hst;have HR:Hid (∀k,k<len->z32 len C D S R O N k=0):=hR;have HN:Hid (∀k,k<len->In64 (N k)):=hN;have HS:Hid (m.step=0/\m.steps=0):=⟨h0,h00⟩;have HO:Hid (z1t w B m.out L):=hO;clear hX hst hR hN h0 h00 hO;go_enter Tryz.func94,Tryz.ntmps94;go_wp2_with fail;go_loopw [4] (fun _ wr=> ∃(pc k:Nat)(m1:Mac)(L1:List Int),Hid (pc<len/\k<=pc/\Below B w wr/\z0b wr B m1/\z1t wr B m1.out L1/\(m1.abs L1).Ok/\m1.step=(pc:Int)/\m1.steps=(k:Int)/\runF C D S R O N len pc k (m1.abs L1)=X)) (fun _ wr=>len-zDp B wr)
 case atStart=>exact⟨0,0,m,L,by omega,Nat.le_refl _,bF _ _,hM,HO.out,hok,HS.out.1,HS.out.2,HX.out⟩
 case round=>
  obtain⟨pc,k,m1,L1,H⟩:=hrel;have hpc:=H.out.1;have hkp:=H.out.2.1;have hb:=H.out.2.2.1;have hM1:=H.out.2.2.2.1;have hok1:=H.out.2.2.2.2.2.1;have hB:=hM1.lt;have q0:=hM1.step;have q1:=hM1.steps;rw[H.out.2.2.2.2.2.2.1]at q0;rw[H.out.2.2.2.2.2.2.2.1]at q1;have f0:=hM1.frozen 0;have f1:=hM1.frozen 1;obtain⟨g0,g1,g2,g3,g4,g5⟩:=HST.out.under hb hbk pc hpc;have hr:=z8e (HR.out pc hpc);have hn:=HN.out pc hpc;have HH:Hid (runF C D S R O N len pc k (m1.abs L1)=X):=H.out.2.2.2.2.2.2.2.2;have HO1:Hid (z1t wr B m1.out L1):=H.out.2.2.2.2.1;have e3:m1.step=(pc:Int):=H.out.2.2.2.2.2.2.1;have E3:Hid (m1.step=(pc:Int)):=e3;clear e3;have HP:Hid (m1.steps=(k:Int)):=H.out.2.2.2.2.2.2.2.1;obtain⟨d,hd⟩:=Int.eq_ofNat_of_zero_le hr.d1;obtain⟨s,hs⟩:=Int.eq_ofNat_of_zero_le hr.s1;have hd11:d<11:=by have:=hr.d2;omega
  have hs11:s<11:=by have:=hr.s2;omega
  rcases hD:doF (C pc) (D pc) (S pc) (R pc) (O pc) (N pc) ((m1.setSteps ((k:Int)+1)).abs L1)with⟨of,er,a2⟩
  have hofs:=q6e hr hpc;have HD0:Hid (doF (C pc) (D pc) (S pc) (R pc) (O pc) (N pc) (m1.abs L1)=(of,er,a2)):=hD;have HX1:Hid (C pc=28->(z3a (m1.reg 0)=0->X= .fine (m1.reg 0).n (k+1) (m1.abs L1))/\(z3a (m1.reg 0)≠0->X= .bad (z3a (m1.reg 0)) pc)):=fun h=>⟨fun hw=>HH.out.symm.trans (zKb hpc h hw),fun hw=>HH.out.symm.trans (z9k hpc h hw)⟩
  have HX2:Hid (C pc≠28->(er≠0->X= .bad er pc)/\(er=0->runF C D S R O N len (pc+1+of.toNat) (k+1) a2=X)):=fun h=>⟨fun hw=>by
   have:=zQ0 (k:=k) (a:=m1.abs L1) (R:=R) (D:=D) (S:=S) (O:=O) (N:=N) hpc h (by rw[HD0.out];exact hw);rw[HD0.out]at this;exact HH.out.symm.trans this,fun hw=>by
   have:=zW9 (k:=k) (a:=m1.abs L1) (R:=R) (D:=D) (S:=S) (O:=O) (N:=N) hpc h (by rw[HD0.out];exact hw);rw[HD0.out]at this;exact this.symm.trans HH.out⟩
  have HOF:Hid (C pc≠28->0<=of/\(pc:Int)+1+of<len):=fun h=>by have:=hofs h (m1.abs L1);rw[HD0.out]at this;exact this
  have HOK:Hid (C pc≠28->a2.Ok):=fun h=>by have:=q4e hok1 hr.c1 hr.c2 h hr.d1 hr.d2 hr.s1 hr.s2 hn (r:=R pc) (o:=O pc);rw[HD0.out]at this;exact this
  have c1:=hr.c1;have c2:=hr.c2;have H27:Hid (C pc=27->N pc=1\/N pc=2\/N pc=3):=hr.call;rw[hd,hs]at hD;rw[hd]at g1;rw[hs]at g2;clear hofs HD0 hd hs H hr HH;generalize C pc=c at*;generalize R pc=r at*;generalize O pc=o at*;generalize N pc=n at*;have HD:Hid (doF c (d:Int) (s:Int) r o n ((m1.setSteps ((k:Int)+1)).abs L1)=(of,er,a2)):=hD;have HNN:Hid (In64 n):=hn;clear hD hn HX HS HO hM hok h1;have hk0:(0:Int)<=(k:Int):=kO;have hk1:(k:Int)<=200:=kO;have hp0:(0:Int)<=(pc:Int):=kO;have hp1:(pc:Int)<len:=kO;have hp2:(pc:Int)<=200:=kO
  by_cases hc:c=28
  ·have x28:(c==28)=true:=by simpa using hc
   have HX3:Hid ((z3a (m1.reg 0)=0->X= .fine (m1.reg 0).n (k+1) (m1.abs L1))/\(z3a (m1.reg 0)≠0->X= .bad (z3a (m1.reg 0)) pc)):=HX1.out hc;obtain⟨r0,r1,r2⟩:=hM1.reg (d:=0) kD;simp only[Nat.reduceMul,Nat.reduceAdd]at r0 r1 r2;clear hc c1 c2
   go_wp2_with(first
    |(go_at_call 118;refine(zHp (m1.reg 0).k (m1.reg 0).n (m1.reg 0).c _).mono ?_;rintro e w2 ⟨rfl,hb2⟩)
    |fail)
   go_ret;have hMW:=((hM1.putSteps ((k:Int)+1)).alloc _).later hb2;have hKW:Kept B wr w2:=z1h (z1l (z13 (z1b B wr) _ _) _) hb2;refine⟨z3a ⟨(m1.reg 0).k,(m1.reg 0).n,(m1.reg 0).c⟩,rfl,hb.trans (z3h hKW hB),_,L1,hMW,HO1.out.kept hKW,?_⟩
   by_cases hw:z3a (m1.reg 0)=0
   ·rw[HX3.out.1 hw]
    exact⟨hw,rfl,rfl,rfl⟩
   ·rw[HX3.out.2 hw]
    exact⟨rfl,hw,E3.out⟩
  ·have x28:(c==28)=false:=by simpa using hc
   have HX3:Hid ((er≠0->X= .bad er pc)/\(er=0->runF C D S R O N len (pc+1+of.toNat) (k+1) a2=X)):=HX2.out hc;have HOK3:Hid a2.Ok:=HOK.out hc;have hof:=HOF.out hc;have HC28:Hid (c≠28):=hc;obtain⟨j,rfl⟩:=Int.eq_ofNat_of_zero_le hof.1;have hj0:(0:Int)<=(j:Int):=kO;have hj1:(pc:Int)+1+(j:Int)<len:=hof.2;have hlen2:(len:Int)<=200:=kO;have HOW:Hid (∀Z:Obj,z1t ((wr.setCell ⟨B,1,none⟩ (A F ((k:Int)+1))).alloc Z) B m1.out L1):=fun Z=>HO1.out.kept (z1l (z13 (z1b B wr) _ _) _);clear hc hof HX1 HX2 HOF HOK
   by_cases he:er=0
   ·subst he
    go_wp2_with(first
     |(go_at_call 119;refine(q4d B d s c o n r (m1.setSteps ((k:Int)+1)) L1 hd11 hs11 _ ((hM1.putSteps ((k:Int)+1)).alloc _) (HOW.out _) hok1 HNN.out c1 c2 HC28.out H27.out).mono ?_;rintro e w2 ⟨rfl,hr2⟩;rw[HD.out]at hr2⊢;dsimp only at hr2⊢;obtain⟨hb2,m2,L2,hM2,hO2,e1,e2,ea⟩:=hr2;have HO2:Hid (z1t w2 B m2.out L2):=hO2;have HE:Hid (m2.steps=(k:Int)+1/\m2.abs L2=a2):=⟨e2,ea rfl⟩;have y0:=hM2.step;have y1:=hM2.frozen 0;rw[e1]at y0;change w2.cell? ⟨B,0,none⟩=some (A F m1.step)at y0;rw[E3.out]at y0;have hB2:=hM2.lt;clear hO2 e1 e2 ea)
     |fail)
    go_roundw
    case rel=>
     have hbw2:Below B w w2:=(hb.trans (z3h (z1l (z13 (z1b B wr) _ _) _) hB)).trans hb2;have ha2:m2.abs L2=a2:=HE.out.2;have hrun:=HX3.out.2 rfl;rw[Int.toNat_natCast, <-ha2]at hrun;refine⟨pc+1+j,k+1,m2.setStep ((pc:Int)+(1+(j:Int))),L2,by omega,by omega,?_,hM2.putStep _,HO2.out.kept (z13 (z1b B w2) _ _),?_,?_,?_,hrun⟩
     ·have hr:B<=(⟨B,0,none⟩:Addr).block:=Nat.le_refl _
      exact hbw2.setCell hr _
     ·have:=HOK3.out
      rw[<-ha2]at this;exact this
     ·show(pc:Int)+(1+(j:Int))=((pc+1+j:Nat):Int)
      omega
     ·show m2.steps=((k+1:Nat):Int)
      rw[HE.out.1];omega
    case measure=>
     rw[zBr hM1,zBr (hM2.putStep ((pc:Int)+(1+(j:Int)))),E3.out];show len-((pc:Int)+(1+(j:Int))).toNat<len-(pc:Int).toNat;omega
   ·have he2:(er !=0)=true:=by simpa using he
    have HER:Hid (er≠0):=he;clear he
    go_wp2_with(first
     |(go_at_call 119;refine(q4d B d s c o n r (m1.setSteps ((k:Int)+1)) L1 hd11 hs11 _ ((hM1.putSteps ((k:Int)+1)).alloc _) (HOW.out _) hok1 HNN.out c1 c2 HC28.out H27.out).mono ?_;rintro e w2 ⟨rfl,hr2⟩;rw[HD.out]at hr2⊢;dsimp only at hr2⊢;have HR2:Hid (Res B _ w2 (m1.setSteps ((k:Int)+1)) er a2):=hr2;clear hr2)
     |fail)
    go_ret;obtain⟨hb2,m2,L2,hM2,hO2,e1,e2,ea⟩:=HR2.out;refine⟨er,rfl,(hb.trans (z3h (z1l (z13 (z1b B wr) _ _) _) hB)).trans hb2,m2,L2,hM2,hO2,?_⟩;rw[HX3.out.1 HER.out];exact⟨rfl,HER.out,e1.trans E3.out⟩
end
end
section
open Go.ChangeShapes Go.WideShapes Go.ChangeAt Go.RowKit
attribute [local simp] z05 z0a z06
def mac0(T K:Nat->Int)(time:Int):Mac:=⟨0,0,fun _=>z7t,fun _=>z7t,T,K,time,.slice none 0 0⟩
def q4g(z:Array Value)(T K:Nat->Int)(time:Int):Array Value:=
 ((((((((((((((((((((((((((((((z.setIfInBounds 83 (A F (T 0))).setIfInBounds 84 (A F (T 1))).setIfInBounds 85 (A F (T 2))).setIfInBounds 86 (A F (T 3))).setIfInBounds 87 (A F (T 4))).setIfInBounds 88 (A F (T 5))).setIfInBounds 89 (A F (T 6))).setIfInBounds 90 (A F (T 7))).setIfInBounds 91 (A F (K 0))).setIfInBounds 92 (A F (K 1))).setIfInBounds 93 (A F (K 2))).setIfInBounds 94 (A F (K 3))).setIfInBounds 95 (A F (K 4))).setIfInBounds 96 (A F (K 5))).setIfInBounds 97 (A F (K 6))).setIfInBounds 98 (A F (K 7))).setIfInBounds 99 (A F (K 8))).setIfInBounds 100 (A F (K 9))).setIfInBounds 101 (A F (K 10))).setIfInBounds 102 (A F (K 11))).setIfInBounds 103 (A F (K 12))).setIfInBounds 104 (A F (K 13))).setIfInBounds 105 (A F (K 14))).setIfInBounds 106 (A F (K 15))).setIfInBounds 107 (A F time)).setIfInBounds 5 (A F 2)).setIfInBounds 6 (A F 0)).setIfInBounds 7 (A F 0)).setIfInBounds 32 (A F 3)).setIfInBounds 33 (A F 0)).setIfInBounds 34 (A F 0)
def z6y(T K:Nat->Int)(time:Int):Mac:=((mac0 T K time).putReg 1 ⟨2,0,0⟩).putReg 10 ⟨3,0,0⟩
theorem zYy(T K:Nat->Int)(time:Int):q4g Tryz.zeroCells172 T K time=Array.ofFn (n:=109) fun i=>(z6y T K time).cell i.1:=by
 kernel_rfl
theorem q0w(w:World)(T K:Nat->Int)(time:Int):z0b (w.alloc (cT (q4g Tryz.zeroCells172 T K time) 172)) w.heap.size (z6y T K time):=by
 rw[zYy];show(w.heap.push _)[w.heap.size]?=_;simp
theorem zMj(T K:Nat->Int)(time:Int)(w:World):
  Calls tP 93 #[.agg #[A F (T 0),A F (T 1),A F (T 2),A F (T 3),A F (T 4),A F (T 5),A F (T 6),A F (T 7)],.agg #[A F (K 0),A F (K 1),A F (K 2),A F (K 3),A F (K 4),A F (K 5),A F (K 6),A F (K 7),A F (K 8),A F (K 9),A F (K 10),A F (K 11),A F (K 12),A F (K 13),A F (K 14),A F (K 15)],A F time] w fun e w'=>e= rT (pT (some ⟨w.heap.size+1+1,0,none⟩))/\Below w.heap.size w w'/\z0b w' (w.heap.size+1+1) (z6y T K time):=by
 go_enter Tryz.func93,Tryz.ntmps93;go_wp2;go_ret;refine⟨rfl,?_,?_⟩
 ·repeat' first|with_reducible(first|exact bF _ _|refine bA ?_ ?_ _|refine bS ?_ ?_ _)|((try dsimp only);omega)|(simp;done)|(simp;omega)
 have h:=q0w ((w.alloc (cT #[A F (T 0),A F (T 1),A F (T 2),A F (T 3),A F (T 4),A F (T 5),A F (T 6),A F (T 7)] 92)).alloc (cT #[A F (K 0),A F (K 1),A F (K 2),A F (K 3),A F (K 4),A F (K 5),A F (K 6),A F (K 7),A F (K 8),A F (K 9),A F (K 10),A F (K 11),A F (K 12),A F (K 13),A F (K 14),A F (K 15)] 77)) T K time;simp only[World.size_alloc]at h;exact h
end
section
section
variable {P:Program} {md:Region.Mode} {ops:Array Oper} {Q:Exit->Act->World->Prop} {S:World->Prop}
theorem z8s{i:Nat}{oi:Oper}(d:Option Tmp)(v:Value){fuel:Nat}{listed:Array Bool}{a:Act}{w:World}(hi:ops[i]?=some oi)(hd:oi.dst=d)
  (hs:Region.noSelect ops=true)(hf:Region.free md ops listed i=true)(hr:(Region.ready md ops listed).contains i=true)
  (hQ: ∀c a w,Q (.panic c) (a.put oi.dst v) w->Q (.panic c) a w)(hw:Region.wanted oi (yielded ops a.tmps)=true)(hy: ∀w,S w->(execOp a.eval oi).run P w= .ok (.value v) w)(hS:S w)
  (h:wpAnyH P md ops Q S fuel (listed.setIfInBounds i true) (a.put d v) w):wpAnyH P md ops Q S (fuel+1) listed a w:=by
 subst hd;exact wpAnyH_take hi hs hf hr hQ (Or.inl ⟨hw,hy⟩) hS h
theorem tkH{i:Nat}{oi:Oper}(d:Option Tmp)(v:Value){fuel:Nat}{listed:Array Bool}{a:Act}{w:World}(hi:ops[i]?=some oi)(hd:oi.dst=d)(hy: ∀w,S w->(execOp a.eval oi).run P w= .ok (.value v) w)(hS:S w)
  (h:wpAnyH P md ops Q S fuel (listed.setIfInBounds i true) (a.put d v) w)(hs:Region.noSelect ops=true:=by kernel_rfl)(hf:Region.free md ops listed i=true:=by kernel_rfl)(hr:(Region.ready md ops listed).contains i=true:=by kernel_rfl)
  (hQ: ∀c a w,Q (.panic c) (a.put oi.dst v) w->Q (.panic c) a w:=by exact fun _ _ _ h=>h)(hw:Region.wanted oi (yielded ops a.tmps)=true:=by rfl):wpAnyH P md ops Q S (fuel+1) listed a w:=
 z8s d v hi hd hs hf hr hQ hw hy hS h
theorem z4p{fuel:Nat}{listed:Array Bool}{a:Act}{w:World}{i:Nat}{o:Oper}{rs:List Nat}(d:Option Tmp)(v:Value)(w':World)(ho:ops[i]?=some o)(hd:o.dst=d)
  (hw:Region.wanted o (yielded ops a.tmps)=true)(hrun:(execOp a.eval o).run P w= .ok (.value v) w')(hS:S w')
  (h:wpAnyH P md ops Q S fuel (listed.setIfInBounds i true) (a.put d v) w')
  (hs:AllReadyH P md ops Q S fuel listed a w rs):AllReadyH P md ops Q S fuel listed a w (i::rs):=by
 subst hd;refine AllReadyH.cons ho (fun K hK=>?_) hs;rw[if_pos hw];unfold Oper.wp;rw[hrun];exact hK.out _ _ hS fun _=>h
theorem z5n{fuel:Nat}{listed:Array Bool}{a:Act}{w:World}{i:Nat}{o:Oper}{rs:List Nat}(w':World)(ho:ops[i]?=some o)(hd:o.dst=none)
  (hw:Region.wanted o (yielded ops a.tmps)=true)(hrun:(execOp a.eval o).run P w= .ok .skip w')(hS:S w')
  (h:wpAnyH P md ops Q S fuel (listed.setIfInBounds i true) (a.put none undef) w')
  (hs:AllReadyH P md ops Q S fuel listed a w rs):AllReadyH P md ops Q S fuel listed a w (i::rs):=by
 refine AllReadyH.cons ho (fun K hK=>?_) hs;rw[if_pos hw];unfold Oper.wp;rw[hrun,Oper.upon_skip,hd];exact hK.out _ _ hS fun _=>h
end
end
end Go.Proofs.YtkdflpplamebkaaGreatDoor
