/-
A part of the proof of DeskPieces; its card says what is proved.
-/
import Derived.StillTail
import Derived.Test.YtkdflpplamebkaaGreatDoorJp14
import Derived.Laws.AppendOwnNone
import Derived.Great.BuildSlice
set_option maxHeartbeats 40000000
open Go.Value renaming int → A
open Go.IntKind renaming i64 → D
open Go.RowKit.Below renaming alloc → bA, setCell → bS, drew → bD, refl → bF
set_option maxRecDepth 1000000
set_option linter.defProp false
set_option linter.unusedVariables false
set_option linter.unusedSimpArgs false
open Go.Ending renaming returned → rT
open Go.Value renaming pointer → pT
open Go.Obj renaming cells → cT
open Go.Proofs.Tryz renaming prog → tP
namespace Go.Proofs.YtkdflpplamebkaaGreatDoor
section
open Go.RowKit
section
variable {P:Program} {ops:Array Oper} {md:Region.Mode} {C:World->Prop} {n0:Nat}
def zDh(P:Program)(w:World)(v:Value):Result Next->Prop
 | .ok (.value u) w'=>w'=w/\u=v
 | .ok .skip w'=>w'=w/\v=undef
 | .ok (.enter f args) w'=>w'=w/\Calls P f args w (fun e w''=>e= rT v/\Below w.heap.size w w'')
 |_=>False
abbrev z7j:Type:=Value⊕(Obj×(Nat->Value))
def z86(P:Program)(ops:Array Oper)(C:World->Prop)(o:Oper)(a:Act):z7j->Prop
 | .inl v=>(Region.wanted o (yielded ops a.tmps)=true/\ ∀w,C w->zDh P w v ((execOp a.eval o).run P w))\/(Region.wanted o (yielded ops a.tmps)=false/\v=undef)
 | .inr (z,f)=>Region.wanted o (yielded ops a.tmps)=true/\ ∀w,C w->(execOp a.eval o).run P w= .ok (.value (f w.heap.size)) (w.alloc z)
abbrev FB:Type:=Nat->Option Obj
def FB.upd(B:FB)(L:Nat)(z:Obj):FB:=fun k=>if k=L then some z else B k
theorem FB.upd_comm(B:FB){L L':Nat}(h:L≠L')(z z':Obj):FB.upd (FB.upd B L z) L' z'=FB.upd (FB.upd B L' z') L z:=by
 funext k;unfold FB.upd
 by_cases h1:k=L'
 ·rw[if_pos h1,if_neg kO,if_pos h1]
 rw[if_neg h1]
 by_cases h2:k=L
 ·rw[if_pos h2,if_pos h2]
 rw[if_neg h2,if_neg h2,if_neg h1]
theorem FB.upd_none{B:FB}{L L':Nat}{z:Obj}(h:FB.upd B L z L'=none):L'≠L/\B L'=none:=by
 unfold FB.upd at h
 by_cases e:L'=L
 ·rw[if_pos e]at h;cases h
 rw[if_neg e]at h;exact⟨e,h⟩
theorem FB.none_upd{B:FB}{L L':Nat}{z:Obj}(h:L'≠L)(h':B L'=none):FB.upd B L z L'=none:=by
 unfold FB.upd;rw[if_neg h];exact h'
def FB.Fin(B:FB):Prop:= ∃m,∀L,m<=L->B L=none
theorem FB.Fin.upd{B:FB}(h:FB.Fin B)(L:Nat)(z:Obj):FB.Fin (FB.upd B L z):=by
 obtain⟨m,hm⟩:=h;exact⟨m+L+1,fun k hk=>FB.none_upd kO (hm k kO)⟩
theorem FB.Fin.fresh{B:FB}(h:FB.Fin B)(n0:Nat): ∃L,B L=none/\n0<=L:=by
 obtain⟨m,hm⟩:=h;exact⟨m+n0,hm _ kO,by omega⟩
def z8v(n0:Nat)(o:Oper)(K:Act->FB->Prop)(a:Act)(B:FB):z7j->Prop
 | .inl v=>K (a.put o.dst v) B
 | .inr (z,f)=> ∀L,B L=none->n0<=L->K (a.put o.dst (f L)) (FB.upd B L z)
def fOp(P:Program)(ops:Array Oper)(C:World->Prop)(n0:Nat)(sp:Nat->z7j)(i:Nat)(K:Act->FB->Prop)(a:Act)(B:FB):Prop:=
 match ops[i]? with
 |none=>K a B
 |some o=>z86 P ops C o a (sp i)/\z8v n0 o K a B (sp i)
def z9f(P:Program)(md:Region.Mode)(ops:Array Oper)(C:World->Prop)(n0:Nat)(sp:Nat->z7j)(n:Nat)(L:Array Bool->Act->FB->Prop):Nat->Array Bool->Act->FB->Prop
 |0,listed,a,B=>L listed a B
 |f+1,listed,a,B=>(∃i,i∈Region.ready md ops listed/\i<n)/\ ∀i∈Region.ready md ops listed,i<n->fOp P ops C n0 sp i (z9f P md ops C n0 sp n L f (listed.setIfInBounds i true)) a B
def ClsB(C:World->Prop)(B:FB)(w:World):Prop:=C w/\ ∀L z,B L=some z->w.heap[L]?=some z
theorem ClsB.later{B:FB}{w w':World}(hst: ∀w w',C w->Below w.heap.size w w'->C w')(h:ClsB C B w)(hb:Below w.heap.size w w'):ClsB C B w':=
 ⟨hst _ _ h.1 hb,fun L z hz=>(hb.block L (Array.getElem?_eq_some_iff.1 (h.2 L z hz)).1).trans (h.2 L z hz)⟩
theorem ClsB.new{B:FB}{w:World}(hst: ∀w w',C w->Below w.heap.size w w'->C w')(h:ClsB C B w)(z:Obj):B w.heap.size=none/\ClsB C (FB.upd B w.heap.size z) (w.alloc z):=by
 refine⟨?_,?_⟩
 ·cases hb:B w.heap.size with
  |none=>rfl
  |some z'=>exact absurd (Array.getElem?_eq_some_iff.1 (h.2 _ _ hb)).1 (Nat.lt_irrefl _)
 have hl:=h.later hst ((bF _ _).alloc (Nat.le_refl _) z);refine⟨hl.1,fun L z' hz=>?_⟩;unfold FB.upd at hz
 by_cases e:L=w.heap.size
 ·rw[if_pos e]at hz
  cases hz;rw[e];show(w.heap.push z)[w.heap.size]?=some z;simp
 rw[if_neg e]at hz;exact hl.2 L z' hz
theorem zMo{sp:Nat->z7j}{i:Nat}{a:Act}{B:FB}{K:Act->FB->Prop}{K':Act->World->Prop}{Q':Exit->Act->World->Prop}{w:World}(hst: ∀w w',C w->Below w.heap.size w w'->C w')(hn: ∀w,C w->n0<=w.heap.size)(hC:ClsB C B w)
  (h: ∀a B w',ClsB C B w'->K a B->K' a w')(hh:fOp P ops C n0 sp i K a B):wpOp P ops Q' i K' a w:=by
 unfold fOp at hh;unfold wpOp;split
 ·rename_i ho;simp only[ho]at hh;exact h _ _ _ hC hh
 rename_i o ho
 simp only[ho]at hh;obtain⟨h1,h2⟩:=hh
 cases hs:sp i with
 |inl v=>
  rw[hs]at h1 h2;rcases h1 with⟨hw,hv⟩|⟨hw,rfl⟩
  ·rw[if_pos hw]
   refine Or.inl ?_;have h3:=hv w hC.1;unfold Oper.wp;generalize (execOp a.eval o).run P w=r at h3⊢
   cases r with
   |ok nx w'=>
    cases nx<;>simp only[zDh]at h3<;>simp only[Oper.upon]
    case value u=>
     obtain⟨e1,e2⟩:=h3;rw[e1,e2];exact h _ _ _ hC h2
    case skip=>
     obtain⟨e1,e2⟩:=h3;rw[e1, <-e2];exact h _ _ _ hC h2
    case enter f args=>
     obtain⟨e1,hc⟩:=h3;rw[e1];exact hc.mono fun e w'' ⟨he,hw''⟩=>by subst he;exact h _ _ _ (hC.later hst hw'') h2
   |halt x w'=>simp only[zDh]at h3
  ·rw[if_neg (by rw[hw];decide)]
   exact h _ _ _ hC h2
 |inr zf=>
  obtain⟨z,f⟩:=zf;rw[hs]at h1 h2;obtain⟨hw,hv⟩:=h1;rw[if_pos hw];refine Or.inl ?_;unfold Oper.wp;rw[hv w hC.1];simp only[Oper.upon];obtain⟨n1,n2⟩:=hC.new hst z;exact h _ _ _ n2 (h2 _ n1 (hn w hC.1))
theorem z86.of_same{o:Oper}{a a':Act}{s:z7j}(h:z86 P ops C o a s)(he:execOp a'.eval o=execOp a.eval o)(hw:Region.wanted o (yielded ops a'.tmps)=Region.wanted o (yielded ops a.tmps)):z86 P ops C o a' s:=by
 cases s with
 |inl v=>unfold z86 at*;rw[he,hw];exact h
 |inr zf=>obtain⟨z,f⟩:=zf;unfold z86 at*;rw[he,hw];exact h
theorem z8v.mono{o:Oper}{K K':Act->FB->Prop}{a:Act}{B:FB}{s:z7j}(h:z8v n0 o K a B s)(hk: ∀v B',(B'=B\/ ∃L z,B L=none/\B'=FB.upd B L z)->K (a.put o.dst v) B'->K' (a.put o.dst v) B'):z8v n0 o K' a B s:=by
 cases s with
 |inl v=>exact hk v B (Or.inl rfl) h
 |inr zf=>
  obtain⟨z,f⟩:=zf;exact fun L h1 h2=>hk _ _ (Or.inr ⟨L,z,h1,rfl⟩) (h L h1 h2)
theorem z8v.swap{oi oj:Oper}{K:Act->FB->Prop}{a:Act}{B:FB}{si sj:z7j}(hap: ∀d,oi.dst=some d->oj.dst≠some d)(h:z8v n0 oi (fun a' B'=>z8v n0 oj K a' B' sj) a B si):
  z8v n0 oj (fun a' B'=>z8v n0 oi K a' B' si) a B sj:=by
 cases si with
 |inl v=>
  cases sj with
  |inl u=>
   have h':K ((a.put oi.dst v).put oj.dst u) B:=h;show K ((a.put oj.dst u).put oi.dst v) B;rw[<-Act.put_comm a v u hap];exact h'
  |inr zf=>
   obtain⟨z,f⟩:=zf;have h': ∀L,B L=none->n0<=L->K ((a.put oi.dst v).put oj.dst (f L)) (FB.upd B L z):=h;show∀L,B L=none->n0<=L->K ((a.put oj.dst (f L)).put oi.dst v) (FB.upd B L z);intro L h1 h2;rw[<-Act.put_comm a v (f L) hap];exact h' L h1 h2
 |inr zg=>
  obtain⟨z',g⟩:=zg
  cases sj with
  |inl u=>
   have h': ∀L,B L=none->n0<=L->K ((a.put oi.dst (g L)).put oj.dst u) (FB.upd B L z'):=h;show∀L,B L=none->n0<=L->K ((a.put oj.dst u).put oi.dst (g L)) (FB.upd B L z');intro L h1 h2;rw[<-Act.put_comm a (g L) u hap];exact h' L h1 h2
  |inr zf=>
   obtain⟨z,f⟩:=zf;have h': ∀L,B L=none->n0<=L-> ∀L',FB.upd B L z' L'=none->n0<=L'->K ((a.put oi.dst (g L)).put oj.dst (f L')) (FB.upd (FB.upd B L z') L' z):=h;show∀L',B L'=none->n0<=L'-> ∀L,FB.upd B L' z L=none->n0<=L->K ((a.put oj.dst (f L')).put oi.dst (g L)) (FB.upd (FB.upd B L' z) L z');intro L' h1 h2 L h3 h4;obtain⟨e1,e2⟩:=FB.upd_none h3;rw[<-Act.put_comm a (g L) (f L') hap, <-FB.upd_comm B e1];exact h' L e2 h4 L' (FB.none_upd (fun e=>e1 e.symm) h1) h2
theorem z8v.some{o:Oper}{K:Act->FB->Prop}{a:Act}{B:FB}{s:z7j}(hf:FB.Fin B)(h:z8v n0 o K a B s): ∃v B',(B'=B\/ ∃L z,B L=none/\B'=FB.upd B L z)/\K (a.put o.dst v) B':=by
 cases s with
 |inl v=>exact⟨v,B,Or.inl rfl,h⟩
 |inr zf=>
  obtain⟨z,f⟩:=zf;obtain⟨L,h1,h2⟩:=hf.fresh n0;exact⟨f L,_,Or.inr ⟨L,z,h1,rfl⟩,h L h1 h2⟩
theorem q4a{B B':FB}(hf:FB.Fin B)(h:B'=B\/ ∃L z,B L=none/\B'=FB.upd B L z):FB.Fin B':=by
 rcases h with rfl|⟨L,z, -,rfl⟩
 ·exact hf
 exact hf.upd L z
theorem zJl{sp:Nat->z7j}{n i:Nat}{oi:Oper}{L:Array Bool->Act->FB->Prop}(hi:ops[i]?=some oi)(hsel: ∀(j:Nat)(o:Oper) cs b,ops[j]?=some o->o.op≠ .select cs b)(hin:i<n)
  (hdone: ∀listed a B,L listed a B-> ∀j∈Region.ready md ops listed,n<=j):
  ∀(f:Nat)(listed:Array Bool)(a:Act)(B:FB),FB.Fin B->HeadInv md ops n listed->
   (∀j oj,ops[j]?=some oj->j≠i->listed.getD j true=false->(∀e∈oj.after,Region.binds md e=true->e.on≠i)->oi.apart ops oj=true)->
   i∈Region.ready md ops listed->z86 P ops C oi a (sp i)->
   z8v n0 oi (z9f P md ops C n0 sp n L f (listed.setIfInBounds i true)) a B (sp i)->z9f P md ops C n0 sp n L (f+1) listed a B:=by
 intro f;induction f with
 |zero=>
  intro listed a B hfin inv _ hr hy H;refine⟨⟨i,hr,hin⟩,fun j hj hjn=>?_⟩
  by_cases hji:j=i
  ·subst hji
   unfold fOp;simp only[hi];exact⟨hy,H⟩
  ·obtain⟨v,B', -,hK⟩:=H.some hfin
   have:=hdone _ _ _ hK j (ready_mono hj hji);omega
 |succ f ih=>
  intro listed a B hfin inv hfree hr hy H;have hun:=(mem_ready.1 hr).1;refine⟨⟨i,hr,hin⟩,fun j hj hjn=>?_⟩
  by_cases hji:j=i
  ·subst hji
   unfold fOp;simp only[hi];exact⟨hy,H⟩
  ·obtain⟨hjun,oj,hoj,hall⟩:=mem_ready.1 hj
   have hnot: ∀e∈oj.after,Region.binds md e=true->e.on≠i:=fun e he hb heq=>by
    have h1:=hall e he hb;rw[heq,getD_both hun]at h1
    cases h1
   obtain⟨p1,p2,p3⟩:=Oper.apart_spec (hfree j oj hoj hji hjun hnot)
   have hfree': ∀k ok,ops[k]?=some ok->k≠i->(listed.setIfInBounds j true).getD k true=false->
     (∀e∈ok.after,Region.binds md e=true->e.on≠i)->oi.apart ops ok=true:=fun k ok hk hki hun hno=>by
    refine hfree k ok hk hki ?_ hno
    by_cases hjk:j=k
    ·subst hjk;exact hjun
    ·rw[getD_set_ne true hjk]at hun;exact hun
   -- what is told of j, behind i
   have hjr:j∈Region.ready md ops (listed.setIfInBounds i true):=ready_mono hj hji
   have step: ∀a' B',z9f P md ops C n0 sp n L (f+1) (listed.setIfInBounds i true) a' B'->z86 P ops C oj a' (sp j)/\z8v n0 oj (z9f P md ops C n0 sp n L f ((listed.setIfInBounds i true).setIfInBounds j true)) a' B' (sp j):=by
    intro a' B' h;have:=h.2 j hjr hjn;unfold fOp at this;simp only[hoj]at this;exact this
   have hold:z86 P ops C oj a (sp j):=by
    obtain⟨v,B', -,hK⟩:=H.some hfin;exact(step _ _ hK).1.of_same (execOp_put oj (fun cs b=>hsel j oj cs b hoj) a oi.dst v p1).symm (wanted_put oj a oi.dst v p1).symm
   have nxt:z8v n0 oi (fun a' B'=>z8v n0 oj (z9f P md ops C n0 sp n L f ((listed.setIfInBounds j true).setIfInBounds i true)) a' B' (sp j)) a B (sp i):=by
    refine H.mono fun v B' _ hK=>?_;rw[<-Array.setIfInBounds_comm _ _ (fun e=>hji e.symm)];exact(step _ _ hK).2
   unfold fOp;simp only[hoj];refine⟨hold,(nxt.swap p2).mono fun v B' hB' hK=>?_⟩;exact ih (listed.setIfInBounds j true) _ B' (q4a hfin hB') (inv.set hj hjn) hfree' (ready_mono hr (Ne.symm hji)) (hy.of_same (execOp_put oi (fun cs b=>hsel i oi cs b hi) a oj.dst v p3) (wanted_put oi a oj.dst v p3)) hK
def wpF(P:Program)(ops:Array Oper)(C:World->Prop)(n0:Nat)(Q:Act->FB->Prop):List Oper->List z7j->Act->FB->Prop
 |[],_,a,B=>Q a B
 |_::_,[],_,_=>False
 |o::l,s::ss,a,B=>z86 P ops C o a s/\z8v n0 o (fun a' B'=>wpF P ops C n0 Q l ss a' B') a B s
theorem zFw{n g:Nat}{Lq:Act->FB->Prop}{sp:Nat->z7j}(hsel:Region.noSelect ops=true):
  ∀(l:List Oper)(ss:List z7j)(k:Nat)(listed:Array Bool)(a:Act)(B:FB),FB.Fin B->(∀j,j<l.length->l[j]?=ops[k+j]?)->(∀j,j<l.length->ss[j]?=some (sp (k+j)))->k+l.length=n->HeadInv md ops n listed->
  Region.lexHead md ops g l.length k listed=true->wpF P ops C n0 Lq l ss a B->
  z9f P md ops C n0 sp n (fun listed' a' B'=>Region.seqB md ops g n listed'=true/\Lq a' B') l.length listed a B
 |[],_,k,listed,a,B,_,_,_,hk,_,hB,h=>by
  have:k=n:=by simpa using hk
  subst this;exact⟨by simpa[Region.lexHead]using hB,h⟩
 |o::l,[],k,listed,a,B,_,_,_,_,_,_,h=>absurd h (by simp[wpF])
 |o::l,s::ss,k,listed,a,B,hfin,hl,hsp,hk,inv,hB,h=>by
  have h0:ops[k]?=some o:=by simpa using(hl 0 kS).symm
  have s0:s=sp k:=by simpa using hsp 0 kS
  simp only[List.length_cons,Region.lexHead,Bool.and_eq_true]at hB;obtain⟨⟨hr,hf⟩,hB'⟩:=hB;have hkn:k<n:=by simp only[List.length_cons]at hk;omega
  have hr':k∈Region.ready md ops listed:=by simpa using hr
  obtain⟨hy,hK⟩:=h;subst s0
  exact zJl h0 (Region.noSelect_spec hsel) hkn (fun listed' a' B' hL=>seqB_ready hL.1) l.length listed a B hfin inv (Region.free_spec h0 hf) hr' hy
   (hK.mono fun v B' hB2 h'=>zFw hsel l ss (k+1) _ _ B' (q4a hfin hB2) (fun j hj=>by have:=hl (j+1) kZ;simpa[Nat.add_assoc,Nat.add_comm 1 j]using this)
    (fun j hj=>by have:=hsp (j+1) kZ;simpa[Nat.add_assoc,Nat.add_comm 1 j]using this) (by simp only[List.length_cons]at hk;omega) (inv.set hr' hkn) hB' h')
def q4b(md:Region.Mode)(ops:Array Oper)(n:Nat)(lz:List Nat):Bool:=
 lz.all fun i=>decide (i<n)&&match ops[i]? with
  |some o=>(o.guard.isNone&&match o.op with| .extract .. =>true|_=>false)&&(List.range ops.size).all fun j=>j==i||Region.waitsFor md ops j i||Region.waitsFor md ops i j||match ops[j]? with
   |some oj=>o.apart ops oj
   |none=>true
  |none=>false
def q60(md:Region.Mode)(ops:Array Oper)(n:Nat)(lz:List Nat):Bool:=
 (List.range n).all fun i=>lz.contains i||(List.range (n+1)).any fun j=>decide (i<j)&&(j==n||!lz.contains j)&&Region.waitsFor md ops j i
theorem zBz{o:Oper}{x:Operand}{k:Nat}(ho:o.op= .extract x k)(ρ:Operand->Value)(w w' w1:World)(u:Value)(h:(execOp ρ o).run P w= .ok (.value u) w1):w1=w/\(execOp ρ o).run P w'= .ok (.value u) w':=by
 unfold execOp at h⊢;simp only[ho]at h⊢
 cases hx:ρ x<;>simp[hx,Instr.extract]at h⊢
 all_goals first|(split at h<;>simp_all)|simp_all
theorem zK0{n:Nat}{lz:List Nat}{listed:Array Bool}(hs:q60 md ops n lz=true)(hc:Region.chainB md ops n=true)(hn:n<ops.size)(inv:HeadInv md ops n listed):
  ∀(d i:Nat),n-i=d->i<n->i∉lz->listed.getD i true=false-> ∀t,n<=t->t∉Region.ready md ops listed:=by
 intro d;induction d using Nat.strongRecOn with
 |_ d ih=>
  intro i hd hi hz hun t ht hr;obtain⟨_,ot,hot,hall⟩:=mem_ready.1 hr;have htlt:t<ops.size:=(Array.getElem?_eq_some_iff.1 hot).1
  by_cases htn:t=n
  ·subst htn
   have h1:=List.all_eq_true.1 hs i (List.mem_range.2 hi);simp only[Bool.or_eq_true,List.contains_eq_mem,decide_eq_true_eq]at h1;obtain⟨j,hj,hj2⟩:=List.any_eq_true.1 (h1.resolve_left hz);simp only[Bool.and_eq_true,decide_eq_true_eq,Bool.or_eq_true,beq_iff_eq,Bool.not_eq_true',decide_eq_false_iff_not]at hj2;obtain⟨oj,hoj,e,he,hb,hon⟩:=Region.waitsFor_spec hj2.2;have hjle:j<=t:=by have:=List.mem_range.1 hj;omega
   by_cases hjt:j=t
   ·subst hjt
    have:oj=ot:=Option.some.inj (hoj.symm.trans hot);subst this;have h2:=hall e he hb;rw[hon,getD_both hun]at h2
    cases h2
   ·cases hl:listed.getD j false with
    |true=>
     have h2:=inv.closed j oj hoj hl e he hb;rw[hon,getD_both hun]at h2
     cases h2
    |false=>
     have hjs:j<listed.size:=by rw[inv.size];omega
     exact ih (t-j) kO j rfl kO (hj2.1.2.resolve_left hjt) (getD_in hjs hl) t (Nat.le_refl _) hr
  ·have h1:=List.all_eq_true.1 hc t (List.mem_range.2 htlt)
   simp only[Bool.or_eq_true,decide_eq_true_eq]at h1;rcases h1 with h1|h1
   ·omega
   ·obtain⟨o',ho',e,he,hb,hon⟩:=Region.waitsFor_spec h1
    have:o'=ot:=Option.some.inj (ho'.symm.trans hot);subst this;have h2:=hall e he hb;rw[hon,getD_both (inv.tail (t-1) kO kO)]at h2
    cases h2
theorem z66{sp:Nat->z7j}{n g:Nat}{lz:List Nat}{L:Array Bool->Act->FB->Prop}{Q':Exit->Act->World->Prop}(hst: ∀w w',C w->Below w.heap.size w w'->C w')(hn0: ∀w,C w->n0<=w.heap.size)
  (hsel:Region.noSelect ops=true)(hz:q4b md ops n lz=true)(hs:q60 md ops n lz=true)(hc:Region.chainB md ops n=true)(hn:n<ops.size)
  (hQ: ∀d v c a w,Q' (.panic c) (a.put d v) w->Q' (.panic c) a w)
  (hL: ∀listed a B w,ClsB C B w->L listed a B->wpAny P md ops Q' g listed a w):
  ∀(f:Nat)(listed:Array Bool)(a:Act)(B:FB)(w:World),HeadInv md ops n listed->ClsB C B w->z9f P md ops C n0 sp n L f listed a B->wpAny P md ops Q' (f+g) listed a w
 |0,listed,a,B,w,_,hC,h=>by rw[Nat.zero_add];exact hL _ _ _ _ hC h
 |f+1,listed,a,B,w,inv,hC,h=>by
  rw[show f+1+g=(f+g)+1 by omega]
  by_cases hl: ∃i,i∈Region.ready md ops listed/\i∈lz
  ·obtain⟨i,hir,hiz⟩:=hl
   have h1:=List.all_eq_true.1 hz i hiz;obtain⟨hun,oi,hoi,hall⟩:=mem_ready.1 hir;simp only[Bool.and_eq_true,decide_eq_true_eq,hoi,Option.isNone_iff_eq_none]at h1;obtain⟨hin,⟨hg,hop⟩,hfr⟩:=h1;have hf:=h.2 i hir hin;unfold fOp at hf;simp only[hoi]at hf
   obtain⟨x,k,ho⟩: ∃x k,oi.op= .extract x k:=by
    cases hh:oi.op<;>simp only[hh]at hop<;>first|exact⟨_,_,rfl⟩|cases hop
   have hwt:Region.wanted oi (yielded ops a.tmps)=true:=by unfold Region.wanted;rw[hg]
   have key: ∃v,Yields P ops oi v a/\z9f P md ops C n0 sp n L f (listed.setIfInBounds i true) (a.put oi.dst v) B:=by
    cases hsp:sp i with
    |inl v=>
     rw[hsp]at hf;refine⟨v,Or.inl ⟨hwt,fun w'=>?_⟩,hf.2⟩;rcases hf.1 with⟨-,hv⟩|⟨hw, -⟩
     ·have h3:=hv w hC.1
      cases hr:(execOp a.eval oi).run P w with
      |ok nx w1=>
       rw[hr]at h3
       cases nx<;>simp only[zDh]at h3
       case value u=>obtain⟨e1,e2⟩:=h3;rw[e2]at hr;exact(zBz ho a.eval w w' w1 v hr).2
       case skip=>
        exfalso
        unfold execOp at hr;simp only[ho]at hr
        cases hx:a.eval x<;>simp[hx,Instr.extract]at hr
        all_goals(split at hr<;>simp_all)
       case enter f args=>
        exfalso
        unfold execOp at hr;simp only[ho]at hr
        cases hx:a.eval x<;>simp[hx,Instr.extract]at hr
        all_goals(split at hr<;>simp_all)
      |halt x w1=>rw[hr]at h3;simp only[zDh]at h3
     ·rw[hwt]at hw;cases hw
    |inr zf=>
     obtain⟨z,fz⟩:=zf;rw[hsp]at hf;have h3:=hf.1.2 w hC.1;have h4:=(zBz ho a.eval w w _ _ h3).1;have h5:(w.alloc z).heap.size=w.heap.size:=by rw[h4]
     simp at h5
   obtain⟨v,hy,hK⟩:=key;refine wpAny_first hoi (Region.noSelect_spec hsel) (fun c a w=>hQ oi.dst v c a w) (f+g) listed a w (fun j oj hj hji hunj hno=>?_) hir hy (z66 hst hn0 hsel hz hs hc hn hQ hL f _ _ B w (inv.set hir hin) hC hK);have h6:=List.all_eq_true.1 hfr j (List.mem_range.2 (Array.getElem?_eq_some_iff.1 hj).1);simp only[Bool.or_eq_true,beq_iff_eq,hji,false_or,hj]at h6;rcases h6 with(h6|h6)|h6
   ·obtain⟨o',ho',e,he,hb,hon⟩:=Region.waitsFor_spec h6
    have:o'=oj:=Option.some.inj (ho'.symm.trans hj);subst this;exact absurd hon (hno e he hb)
   ·obtain⟨o',ho',e,he,hb,hon⟩:=Region.waitsFor_spec h6
    have:o'=oi:=Option.some.inj (ho'.symm.trans hoi);subst this;have h7:=hall e he hb;rw[hon,getD_both hunj]at h7
    cases h7
   ·exact h6
  ·obtain⟨⟨i0,hi0,hi0n⟩,hstep⟩:=h
   have hun0:=(mem_ready.1 hi0).1;have hi0z:i0∉lz:=fun e=>hl ⟨i0,hi0,e⟩;refine⟨fun h0=>(by rw[h0]at hi0;cases hi0),fun i hi=>?_⟩
   have hin:i<n:=by
    rcases Nat.lt_or_ge i n with h|h
    ·exact h
    ·exact absurd hi (zK0 hs hc hn inv _ i0 rfl hi0n hi0z hun0 i h)
   exact zMo hst hn0 hC (fun a' B' w' hC' h'=>z66 hst hn0 hsel hz hs hc hn hQ hL f _ a' B' w' (inv.set hi hin) hC' h') (hstep i hi hin)
def zH4(ops:Array Oper)(n:Nat)(lz:List Nat):Bool:=
 Region.noSelect ops&&decide (n<ops.size)&&q4b .any ops n lz&&q60 .any ops n lz&&Region.chainB .any ops n&&Region.lexHead .any ops (ops.size-n) n 0 (Array.replicate ops.size false)
theorem z7k{id:Nat}{Q:Exit->Act->World->Prop}{a:Act}{w:World}{l:List Oper}(n:Nat)(lz:List Nat)(ss:List z7j)(hm:P.follows .mixedOrders=true)(hB:zH4 l.toArray n lz=true)(hlen:ss.length=n)
  (hQ: ∀d v c a w,Q (.panic c) (a.put d v) w->Q (.panic c) a w)
  (hst: ∀w w',C w->Below w.heap.size w w'->C w')(hn0: ∀w,C w->n0<=w.heap.size)(hC:C w.drew)
  (h:wpF P l.toArray C n0 (fun a' B=> ∀w',C w'->(∀L z,B L=some z->w'.heap[L]?=some z)->wpList P l.toArray Q (l.drop n) a' w') (l.take n) ss a (fun _=>none)):(Code.region id l.toArray true).wp P Q a w:=by
 simp only[zH4,Bool.and_eq_true,decide_eq_true_eq]at hB;obtain⟨⟨⟨⟨⟨hsel,hn⟩,hz⟩,hs⟩,hc⟩,hlex⟩:=hB;have hn':n<l.length:=by simpa using hn
 have htl:(l.take n).length=n:=kZ;have hdl:(l.drop n).length=l.toArray.size-n:=by simp
 have inv0:HeadInv .any l.toArray n (Array.replicate l.toArray.size false):=
  ⟨by simp,fun j oj _ hl=>(by rw[getD_replicate_false]at hl;cases hl),fun t _ ht=>getD_in (by simpa using ht) (getD_replicate_false _ _)⟩
 have H:=zFw (md:= .any) (g:=l.toArray.size-n) (sp:=fun j=>ss.getD j (.inl undef)) hsel (l.take n) ss 0 _ a (fun _=>none) ⟨0,fun _ _=>rfl⟩ (fun j hj=>by
  have hj':j<n:=by rw[htl]at hj;exact hj
  simp[hj']) (fun j hj=>by
  have hj':j<ss.length:=by rw[htl]at hj;omega
  simp[hj']) (by simpa using htl) inv0 (by rw[htl];exact hlex) h
 refine wp_region_any hm ?_
 have:=z66 (Q':=Q) (g:=l.toArray.size-n) hst hn0 hsel hz hs hc hn hQ (fun listed a' B w' hC' hL=>by
  have:=wpAny_of_seq (md:= .any) (Q':=Q) (l.drop n) n listed a' w' (fun j=>by simp[List.getElem?_drop]) (by rw[hdl];exact hL.1) (hL.2 w' hC'.1 hC'.2);rwa[hdl]at this) _ _ _ _ _ inv0 (⟨hC,fun _ _ h=>by cases h⟩:ClsB C (fun _=>none) w.drew) H
 rw[htl,show n+(l.toArray.size-n)=l.toArray.size by omega]at this;exact this
end
end
section
open Go.RowKit
section
variable {P:Program} {ops:Array Oper} {C:World->Prop} {n0:Nat}
def wpQ(P:Program)(ops:Array Oper)(C:World->Prop)(K:Act->Prop):List Oper->Act->Prop
 |[],a=>K a
 |o::l,a=> ∃v,z86 P ops C o a (.inl v)/\wpQ P ops C K l (a.put o.dst v)
def zAx(L:Nat):Value:= pT (some ⟨L,0,none⟩)
def q08(n0:Nat)(K:Act->FB->Prop):List Oper->List Obj->Act->FB->Prop
 |o::l,z::zs,a,B=> ∀L,B L=none->n0<=L->q08 n0 K l zs (a.put o.dst (zAx L)) (FB.upd B L z)
 |_,_,a,B=>K a B
def zJi(P:Program)(C:World->Prop):List Oper->List Obj->Prop
 |o::l,z::zs=>(o.guard=none/\ ∀(a:Act) w,C w->(execOp a.eval o).run P w= .ok (.value (zAx w.heap.size)) (w.alloc z))/\zJi P C l zs
 |[],[]=>True
 |_,_=>False
theorem zMq{o:Oper}(h:o.guard=none)(y:Nat->Option Bool):Region.wanted o y=true:=by unfold Region.wanted;rw[h]
theorem zUq{K:Act->FB->Prop}: ∀(l:List Oper)(zs:List Obj)(a:Act)(B:FB),zJi P C l zs->q08 n0 K l zs a B->wpF P ops C n0 K l (zs.map fun z=> .inr (z,zAx)) a B
 |[],[],_,_,_,h=>h
 |[],_::_,_,_,hz,_=>absurd hz (by simp[zJi])
 |_::_,[],_,_,hz,_=>absurd hz (by simp[zJi])
 |o::l,z::zs,a,B,hz,h=>⟨⟨zMq hz.1.1 _,hz.1.2 a⟩,fun L h1 h2=>zUq l zs _ _ hz.2 (h L h1 h2)⟩
theorem zKp: ∀{l:List Oper}{zs:List Obj},zJi P C l zs->l.length=zs.length
 |[],[],_=>rfl
 |[],_::_,h=>absurd h (by simp[zJi])
 |_::_,[],h=>absurd h (by simp[zJi])
 |_::l,_::zs,h=>by simp[zKp h.2]
theorem q3s{K:Act->FB->Prop}{l2:List Oper}{zs:List Obj}(hz:zJi P C l2 zs){B:FB}: ∀(l1:List Oper)(a:Act),wpQ P ops C (fun a'=>q08 n0 K l2 zs a' B) l1 a-> ∃ss:List z7j,ss.length=l1.length+l2.length/\wpF P ops C n0 K (l1++l2) ss a B
 |[],a,h=>⟨_,by simp[zKp hz],zUq l2 zs a B hz h⟩
 |o::l1,a,⟨v,h1,h2⟩=>by
  obtain⟨ss,e,h⟩:=q3s hz l1 _ h2;exact⟨.inl v::ss,by simp[e];omega,h1,h⟩
theorem z0n{id:Nat}{Q:Exit->Act->World->Prop}{a:Act}{w:World}{l:List Oper}(n:Nat)(lz:List Nat)(zs:List Obj)(hm:P.follows .mixedOrders=true)(hB:zH4 l.toArray (n+zs.length) lz=true)(hQ: ∀d v c a w,Q (.panic c) (a.put d v) w->Q (.panic c) a w)
  (hst: ∀w w',C w->Below w.heap.size w w'->C w')(hn0: ∀w,C w->n0<=w.heap.size)(hC:C w.drew)(hz:zJi P C ((l.drop n).take zs.length) zs)
  (h:wpQ P l.toArray C (fun a'=>q08 n0 (fun a2 B=> ∀w',C w'->(∀L z,B L=some z->w'.heap[L]?=some z)->wpList P l.toArray Q (l.drop (n+zs.length)) a2 w') ((l.drop n).take zs.length) zs a' (fun _=>none)) (l.take n) a):
  (Code.region id l.toArray true).wp P Q a w:=by
 have hn:n+zs.length<l.length:=by
  have:=hB;simp only[zH4,Bool.and_eq_true,decide_eq_true_eq]at this;simpa using this.1.1.1.1.2
 obtain⟨ss,e,hF⟩:=q3s hz _ _ h;have el:l.take n++(l.drop n).take zs.length=l.take (n+zs.length):=(List.take_add).symm;rw[el]at hF;refine z7k (n+zs.length) lz ss hm hB ?_ hQ hst hn0 hC hF;rw[e];simp;omega
theorem z0r{K:Act->Prop}{a:Act}(h:K a):wpQ P ops C K [] a:=h
theorem z09{K:Act->Prop}{o:Oper}{l:List Oper}{a:Act}{v:Value}(hw:Region.wanted o (yielded ops a.tmps)=true)(hy: ∀w,C w->(execOp a.eval o).run P w= .ok (.value v) w)(h:wpQ P ops C K l (a.put o.dst v)):wpQ P ops C K (o::l) a:=
 ⟨v,Or.inl ⟨hw,fun w hC=>by rw[hy w hC];exact⟨rfl,rfl⟩⟩,h⟩
theorem z0t{K:Act->Prop}{o:Oper}{l:List Oper}{a:Act}(hw:Region.wanted o (yielded ops a.tmps)=true)(h: ∃v,(∀w,C w->zDh P w v ((execOp a.eval o).run P w))/\wpQ P ops C K l (a.put o.dst v)):wpQ P ops C K (o::l) a:=by
 obtain⟨v,h1,h2⟩:=h;exact⟨v,Or.inl ⟨hw,h1⟩,h2⟩
theorem z0k{K:Act->Prop}{o:Oper}{l:List Oper}{a:Act}(hw:Region.wanted o (yielded ops a.tmps)=false)(h:wpQ P ops C K l (a.put o.dst undef)):wpQ P ops C K (o::l) a:=⟨undef,Or.inr ⟨hw,rfl⟩,h⟩
theorem z10{f:FuncId}{args:Array Value}{w:World}{v:Value}(h:Calls P f args w fun e w''=>e= rT v/\Below w.heap.size w w''):zDh P w v (.ok (.enter f args) w):=⟨rfl,h⟩
theorem FB.at_new(B:FB)(L:Nat)(z:Obj):FB.upd B L z L=some z:=if_pos rfl
theorem FB.at_old{B:FB}{L L':Nat}{z z':Obj}(h:L'≠L)(h':B L'=some z'):FB.upd B L z L'=some z':=(if_neg h).trans h'
end
end
section
open Go.RowKit
def Blk(w0:World)(F:List (Nat×Obj))(w:World):Prop:=Below w0.heap.size w0 w/\ ∀x,x∈F->w.heap[x.1]?=some x.2
section
variable {w0 w w':World} {F:List (Nat×Obj)}
theorem Blk.later(h:Blk w0 F w)(hb:Below w.heap.size w w'):Blk w0 F w':=
 ⟨h.1.trans (hb.mono h.1.size),fun x hx=>(hb.block x.1 (Array.getElem?_eq_some_iff.1 (h.2 x hx)).1).trans (h.2 x hx)⟩
theorem Blk.stable(w0:World)(F:List (Nat×Obj)): ∀w w',Blk w0 F w->Below w.heap.size w w'->Blk w0 F w':=fun _ _ h hb=>h.later hb
theorem Blk.drew(h:Blk w0 F w):Blk w0 F w.drew:=⟨h.1.drew,h.2⟩
theorem Blk.lt(h:Blk w0 F w){g:Nat}{z:Obj}(hm:(g,z)∈F):g<w.heap.size:=(Array.getElem?_eq_some_iff.1 (h.2 _ hm)).1
theorem Blk.room(w0:World){F:List (Nat×Obj)}{g:Nat}{z:Obj}(hm:(g,z)∈F): ∀w,Blk w0 F w->g+1<=w.heap.size:=fun _ h=>h.lt hm
theorem Blk.room0(w0:World)(F:List (Nat×Obj)): ∀w,Blk w0 F w->w0.heap.size<=w.heap.size:=fun _ h=>h.1.size
theorem Blk.nil(hb:Below w0.heap.size w0 w):Blk w0 [] w:=⟨hb,fun _ h=>absurd h kS⟩
theorem Blk.cons{g:Nat}{z:Obj}(h:Blk w0 F w)(hg:w.heap[g]?=some z):Blk w0 ((g,z)::F) w:=
 ⟨h.1,fun x hx=>by
  rcases List.mem_cons.mp hx with rfl|hx
  ·exact hg
  ·exact h.2 x hx⟩
theorem Blk.more{F':List (Nat×Obj)}(h:Blk w0 F w)(h': ∀x,x∈F'->x∈F):Blk w0 F' w:=⟨h.1,fun x hx=>h.2 x (h' x hx)⟩
end
section
variable {w:World} {g:Nat} {t:TypeId} {a b c d e f:Value}
theorem row2(h:w.heap[g]?=some (cT #[a,b] t (0,0))):w.cell? ⟨g,0,none⟩=some a/\w.cell? ⟨g,1,none⟩=some b/\w.frozen? ⟨g,0,none⟩=false/\w.frozen? ⟨g,1,none⟩=false/\g<w.heap.size:=
 ⟨by simp[World.cell?,h],by simp[World.cell?,h],by simp[World.frozen?,h],by simp[World.frozen?,h],(Array.getElem?_eq_some_iff.1 h).1⟩
theorem row3(h:w.heap[g]?=some (cT #[a,b,c] t (0,0))):w.cell? ⟨g,0,none⟩=some a/\w.cell? ⟨g,1,none⟩=some b/\w.cell? ⟨g,2,none⟩=some c/\w.frozen? ⟨g,0,none⟩=false/\w.frozen? ⟨g,1,none⟩=false/\w.frozen? ⟨g,2,none⟩=false/\g<w.heap.size:=
 ⟨by simp[World.cell?,h],by simp[World.cell?,h],by simp[World.cell?,h],by simp[World.frozen?,h],by simp[World.frozen?,h],by simp[World.frozen?,h],(Array.getElem?_eq_some_iff.1 h).1⟩
theorem row6(h:w.heap[g]?=some (cT #[a,b,c,d,e,f] t (0,0))):w.cell? ⟨g,0,none⟩=some a/\w.cell? ⟨g,1,none⟩=some b/\w.cell? ⟨g,2,none⟩=some c/\w.cell? ⟨g,3,none⟩=some d/\w.cell? ⟨g,4,none⟩=some e/\w.cell? ⟨g,5,none⟩=some f/\g<w.heap.size:=
 ⟨by simp[World.cell?,h],by simp[World.cell?,h],by simp[World.cell?,h],by simp[World.cell?,h],by simp[World.cell?,h],by simp[World.cell?,h],(Array.getElem?_eq_some_iff.1 h).1⟩
theorem put2{x y:Value}(h:w.heap[g]?=some (cT #[a,b] t (0,0))):((w.setCell ⟨g,0,none⟩ x).setCell ⟨g,1,none⟩ y).heap[g]?=some (cT #[x,y] t (0,0)):=
 heap_setCell_same _ g 1 _ t y (heap_setCell_same w g 0 _ t x h)
theorem put3{x y z:Value}(h:w.heap[g]?=some (cT #[a,b,c] t (0,0))):(((w.setCell ⟨g,0,none⟩ x).setCell ⟨g,1,none⟩ y).setCell ⟨g,2,none⟩ z).heap[g]?=some (cT #[x,y,z] t (0,0)):=
 heap_setCell_same _ g 2 _ t z (heap_setCell_same _ g 1 _ t y (heap_setCell_same w g 0 _ t x h))
theorem off2{B:Nat}{o o':Nat}{x y:Value}{ob:Obj}(h:w.heap[g]?=some ob)(hne:g≠B):((w.setCell ⟨B,o,none⟩ x).setCell ⟨B,o',none⟩ y).heap[g]?=some ob:=
 (heap_setCell_other _ _ _ _ hne).trans ((heap_setCell_other _ _ _ _ hne).trans h)
theorem off3{B:Nat}{o o' o'':Nat}{x y z:Value}{ob:Obj}(h:w.heap[g]?=some ob)(hne:g≠B):(((w.setCell ⟨B,o,none⟩ x).setCell ⟨B,o',none⟩ y).setCell ⟨B,o'',none⟩ z).heap[g]?=some ob:=
 (heap_setCell_other _ _ _ _ hne).trans ((heap_setCell_other _ _ _ _ hne).trans ((heap_setCell_other _ _ _ _ hne).trans h))
end
end
section
open Go.ChangeShapes Go.WideShapes Go.ChangeAt Go.RowKit
attribute [local simp] z05 z0a z06
theorem zA0(B k:Nat)(hk:k<3)(w:World):zS 90 #[pT (some ⟨B,0,none⟩),A D (k:Int)] w (.tuple #[pT (some ⟨B,k*317,none⟩),.nilIface]):=by
 have z1:decide ((k:Int)<0)=false:=decide_eq_false kO;have z2:decide (3<=(k:Int))=false:=decide_eq_false kO;have h0:(0:Int)<=(k:Int):=kO;have h1:(k:Int)<3:=kO;go_enter Tryz.func90,Tryz.ntmps90;go_wp2;exact bodyPost_ret (v:= .tuple #[pT (some ⟨B,k*317,none⟩),.nilIface]) (by simp[results,Tryz.results90,go_sem, *]) rfl ⟨rfl,rfl⟩
theorem zXw(B k:Nat)(hk:k<3)(w:World):zS 65 #[pT (some ⟨B,0,none⟩),A D (k:Int)] w (.tuple #[pT (some ⟨B,k*317,none⟩),.nilIface]):=by
 go_enter Tryz.func65,Tryz.ntmps65
 go_wp2_with(first
  |(go_at_call 90;refine(zA0 B k hk _).mono ?_;rintro e w1 ⟨rfl,rfl⟩)
  |fail)
 exact bodyPost_ret (v:= .tuple #[pT (some ⟨B,k*317,none⟩),.nilIface]) (by simp[results,Tryz.results65,go_sem, *]) rfl ⟨rfl,rfl⟩
theorem zXq(B k:Nat)(hk:k<3)(d:Dsk)(w:World)(hD:z0f w B d):zS 58 #[pT (some ⟨B,0,none⟩),A D (k:Int)] w (A D ((d.g k).evs.length:Int)):=by
 have c0:w.cell? ⟨B,k*317+314,none⟩=some (A D ((d.g k).evs.length:Int)):=hD.gate hk kD;go_enter Tryz.func58,Tryz.ntmps58
 go_wp2_with(first
  |(go_at_call 90;refine(zA0 B k hk _).mono ?_;rintro e w1 ⟨rfl,rfl⟩)
  |fail)
 go_ret;exact⟨rfl,rfl⟩
theorem q2i(B k:Nat)(hk:k<3)(d:Dsk)(w:World)(hD:z0f w B d):zS 59 #[pT (some ⟨B,0,none⟩),A D (k:Int)] w (A D (d.g k).left):=by
 have c0:w.cell? ⟨B,k*317+316,none⟩=some (A D (d.g k).left):=hD.gate hk kD;go_enter Tryz.func59,Tryz.ntmps59
 go_wp2_with(first
  |(go_at_call 90;refine(zA0 B k hk _).mono ?_;rintro e w1 ⟨rfl,rfl⟩)
  |fail)
 go_ret;exact⟨rfl,rfl⟩
def z0j(T:Nat->Int):Array Value:=#[A D (T 0),A D (T 1),A D (T 2),A D (T 3),A D (T 4),A D (T 5),A D (T 6),A D (T 7)]
theorem zCw(T:Nat->Int):(z0j T).size=8:=rfl
theorem zG0(T:Nat->Int){j:Nat}(hj:j<8):(z0j T).toList.getD j undef=A D (T j):=by
 rcases(show j=0\/j=1\/j=2\/j=3\/j=4\/j=5\/j=6\/j=7 by omega)with rfl|rfl|rfl|rfl|rfl|rfl|rfl|rfl<;>rfl
theorem zAo(T:Nat->Int):(z0j T).all (·.oneCell')=true:=kR
theorem zXo(T:Nat->Int):(Tryz.prog.info? 92).map (·.size)=some (z0j T).size:=by rw[zCw];kernel_rfl
theorem zDq{o:Oper}{u:Act}{x:Operand}{W:World}{g:Nat}{T:Nat->Int}(hW:W.heap[g]?=some (cT (z0j T) 92 (0,0)))(ho:o.op= .load 92 x)(hx:u.eval x= pT (some ⟨g,0,none⟩)):(execOp u.eval o).run tP W= .ok (.value (.agg (z0j T))) W:=by
 have hl:=run_loadVar_row (P:=tP) W g 92 92 (z0j T) (0,0) _ hW Tryz.underlying92 rfl (zXo T);unfold execOp;simp only[ho,hx,Instr.loadAt,Instr.sureAddr,Sem.run_bind,Sem.run_pure,Result.andThen_ok,hl]
theorem zLf{α:Type}(l:List α)(x z:α)(i:Nat):(l++[x]).getD i z=if i=l.length then x else l.getD i z:=by
 rw[List.getD_eq_getElem?_getD,List.getD_eq_getElem?_getD]
 by_cases h:i=l.length
 ·rw[if_pos h,h,List.getElem?_append_right (Nat.le_refl _),Nat.sub_self];rfl
 rw[if_neg h];rcases Nat.lt_or_ge i l.length with g|g
 ·rw[List.getElem?_append_left g]
 rw[List.getElem?_eq_none (by rw[List.length_append,List.length_singleton];omega),List.getElem?_eq_none g]
theorem zOt(evs:List (Nat->Int))(T:Nat->Int)(i:Nat):z61 (evs++[T]) i=if evs.length*8<=i/\i<evs.length*8+8 then A D (T (i-evs.length*8))else z61 evs i:=by
 unfold z61;rw[zLf]
 by_cases h:i/8=evs.length
 ·rw[if_pos h,if_pos kO,show i%8=i-evs.length*8 by omega]
 rw[if_neg h,if_neg kO]
theorem zFn(g:Gt)(T:Nat->Int){n:Nat}(hn:g.evs.length=n)(h20:n<20)(i:Nat):z0y {g with evs:=g.evs++[T]} i=if i=314 then A D ((n+1:Nat):Int)else if 154+n*8<=i/\i<154+n*8+8 then A D (T (i-(154+n*8)))else z0y g i:=by
 subst hn;unfold z0y;dsimp only
 by_cases c1:i<154
 ·rw[if_pos c1,if_pos c1,if_neg (show¬i=314 by omega),if_neg (show¬(154+g.evs.length*8<=i/\i<154+g.evs.length*8+8)by omega)]
 rw[if_neg c1,if_neg c1]
 by_cases c2:i<314
 ·rw[if_pos c2,if_pos c2,if_neg (show¬i=314 by omega),zOt]
  by_cases c3:154+g.evs.length*8<=i/\i<154+g.evs.length*8+8
  ·rw[if_pos c3,if_pos kO,show i-154-g.evs.length*8=i-(154+g.evs.length*8)by omega]
  ·rw[if_neg c3,if_neg kO]
 rw[if_neg c2,if_neg c2]
 by_cases c3:i=314
 ·rw[if_pos c3,if_pos c3,List.length_append,List.length_singleton]
 rw[if_neg c3,if_neg c3,if_neg c3]
 by_cases c4:i=315
 ·rw[if_pos c4,if_neg (show¬(154+g.evs.length*8<=i/\i<154+g.evs.length*8+8)by omega)]
 rw[if_neg c4,if_neg (show¬(154+g.evs.length*8<=i/\i<154+g.evs.length*8+8)by omega)]
theorem zUd(d:Dsk){k n:Nat}(T:Nat->Int)(hk:k<3)(hn:(d.g k).evs.length=n)(h20:n<20)(j:Nat)(_:j<952):
  (d.put k {d.g k with evs:=(d.g k).evs++[T]}).cell j=if j=k*317+314 then A D ((n+1:Nat):Int)else if k*317+154+n*8<=j/\j<k*317+154+n*8+(z0j T).toList.length then(z0j T).toList.getD (j-(k*317+154+n*8)) undef else d.cell j:=by
 have hl:(z0j T).toList.length=8:=rfl;rw[hl,z65 d _ hk]
 by_cases c:k*317<=j/\j<k*317+317
 ·rw[if_pos c]
  obtain⟨i,rfl⟩: ∃i,j=k*317+i:=⟨j-k*317,by omega⟩;rw[Nat.add_sub_cancel_left,z1s d hk kO,zFn _ T hn h20]
  by_cases c1:i=314
  ·rw[if_pos c1,if_pos (show k*317+i=k*317+314 by omega)]
  rw[if_neg c1,if_neg (show¬k*317+i=k*317+314 by omega)]
  by_cases c2:154+n*8<=i/\i<154+n*8+8
  ·have e:k*317+i-(k*317+154+n*8)=i-(154+n*8):=kO
   rw[if_pos c2,if_pos (show k*317+154+n*8<=k*317+i/\k*317+i<k*317+154+n*8+8 by omega),e,zG0 T kO]
  ·rw[if_neg c2,if_neg (show¬(k*317+154+n*8<=k*317+i/\k*317+i<k*317+154+n*8+8)by omega)]
 rw[if_neg c,if_neg (show¬j=k*317+314 by omega),if_neg (show¬(k*317+154+n*8<=j/\j<k*317+154+n*8+8)by omega)]
theorem zXu(B k n:Nat)(hk:k<3)(d:Dsk)(T:Nat->Int)(w:World)(hD:z0f w B d)(hn:(d.g k).evs.length=n)(h20:n<20):Calls tP 51 #[pT (some ⟨B,0,none⟩),A D (k:Int),.agg (z0j T)] w fun e w'=>e= rT .nilIface/\Kept B w w'/\z0f w' B (d.put k {d.g k with evs:=(d.g k).evs++[T]}):=by
 have z1:((n:Int)==20)=false:=kZ;have hn0:(0:Int)<=(n:Int):=kO;have hn1:(n:Int)<20:=kO;have e1:IntKind.i64.wrap ((n:Int)+1)=((n+1:Nat):Int):=by rw[IntWalk.i64_left,z0s kO kO];omega
 have hK0:Blk w [(w.heap.size,cT (z0j T) 92 (0,0)),(B,cT (Array.ofFn (n:=952) fun i=>Dsk.cell d i.1) 125 (0,0))] (w.alloc (cT (z0j T) 92)):=((Blk.nil ((bF _ _).alloc (Nat.le_refl _) _)).cons ((heap_alloc_old _ _ hD.lt).trans hD)).cons (heap_alloc_new w _);have hC:=hK0;have hDk:z0f _ B d:=(hC.2 _ (mcO _ mcS));have c0:World.cell? _ ⟨B,k*317+314,none⟩=some (A D (n:Int)):=(hDk.gate hk kD).trans (by rw[<-hn];rfl);have hne:B≠w.heap.size:=by have:=hD.lt;omega
 go_enter Tryz.func51,Tryz.ntmps51
 go_upto_region 6 with(first
  |(go_at_call 90;refine(zA0 B k hk _).mono ?_;rintro e w1 ⟨rfl,rfl⟩)
  |fail)
 generalize w.alloc (cT (z0j T) 92)=w0 at hK0 c0 hDk hC⊢;clear c0 hDk hC;refine z0n (C:=Blk w [(w.heap.size,cT (z0j T) 92 (0,0)),(B,cT (Array.ofFn (n:=952) fun i=>Dsk.cell d i.1) 125 (0,0))]) (n0:=w.heap.size) 9 [] [] kR kR (fun d _ _ _ _ h=>by cases d<;>exact h) (Blk.stable _ _) (fun w2 h=>h.1.size) hK0.drew trivial ?_;simp only[List.take_succ_cons,List.take_zero,List.drop_succ_cons,List.drop_zero,List.length_nil,Nat.reduceAdd]
 repeat(first
  |(refine z0k kI ?_;simp only[pS])
  |(refine z09 kI (v:= .agg (z0j T)) (fun w2 hC=>zDq (hC.2 _ mcS) rfl rfl) ?_;simp only[pS])
  |(refine z09 kI (v:=?_) ?_ ?_;rotate_left;(intro w2 hC;have hDk:z0f _ B d:=(hC.2 _ (mcO _ mcS));have c0:World.cell? _ ⟨B,k*317+314,none⟩=some (A D (n:Int)):=(hDk.gate hk kD).trans (by rw[<-hn];rfl);go_simp;try with_reducible rfl);simp only[pS]))
 refine z0r ?_;intro w3 hC hB3;have hDk:z0f _ B d:=(hC.2 _ (mcO _ mcS));have c0:World.cell? _ ⟨B,k*317+314,none⟩=some (A D (n:Int)):=(hDk.gate hk kD).trans (by rw[<-hn];rfl);have hth:=hDk.there (o:=k*317+154+n*8) (n:=8) kO;refine wpList_store_mid rfl 92 _ _ rfl B (k*317+154+n*8) (z0j T) kG rfl (by rw[zCw];exact hth) (zXo T) (zAo T) ?_;simp only[pS];have hF:=FnAt.setCells hDk (z0j T).toList (k*317+154+n*8);have hKp:=z1w (z0d hC.1 B) (k*317+154+n*8) (z0j T).toList;have hl8:(z0j T).toList.length=8:=rfl;have c1:=hF.at (k*317+314) kO;rw[if_neg (by rw[hl8];omega),z1s d hk kD,show z0y (d.g k) 314=A D (n:Int)from by rw[<-hn];rfl]at c1;have cf:=hF.frozen (k*317+314);clear hl8 c0 hDk hC hK0 hth;generalize w3.setCells B (k*317+154+n*8) (z0j T).toList=w4 at hF hKp c1 cf⊢;go_wp2_with fail;go_ret;exact⟨rfl,z13 hKp _ _,FnAt.ext (hF.set (k*317+314) _) fun j hj=>zUd d T hk hn h20 j hj⟩
end
section
open Go.ChangeShapes Go.WideShapes Go.ChangeAt Go.RowKit
theorem z73{P:Program}(w:World)(dT sT ty elem:TypeId)(b o dLen dCap:Nat)(a:Addr)(sLen sCap z:Nat)(cs:List Value)
  (hu:P.underlying dT=some (.slice elem))(hs:(P.info? elem).map (·.size)=some z)(hn:cs.length=Nat.min sLen dLen*z)
  (hsrc: ∀j v,cs[j]?=some v->w.cell? (a.add j)=some v)(hc: ∀j,j<cs.length->(w.cell? ⟨b,o+j,none⟩).isSome=true)(hf: ∀j,j<cs.length->w.frozen? ⟨b,o+j,none⟩=false)(h1: ∀v∈cs,v.oneCell'=true):
  (Builtin.copy_ #[dT,sT] ty #[.slice (some ⟨b,o,none⟩) dLen dCap,.slice (some a) sLen sCap]).run P w= .ok (goInt (Nat.min sLen dLen)) (w.setCells b o cs):=by
 have hl:=run_loadCells_list (P:=P) w a cs hsrc;have hst:=run_storeCells_cells (P:=P) b o cs 0 w (by simpa using hc) (by simpa using hf) h1
 cases hq:P.info? elem with
 |none=>simp[hq]at hs
 |some i=>
  have hi:i.size=z:=by simpa[hq]using hs
  simp[Builtin.copy_,run_underlying hu,Builtin.lenOf,Builtin.firstCells,sizeOf,typeInfo,hq,hi, <-hn,hl,hst]
theorem zJb{P:Program}{o:Oper}{u:Act}(W W':World)(x y:Operand)(dT sT:TypeId)(s1 s2 v:Value)(ho:o.op= .call {callee:= .builtin .copy,args:=#[x,y],argTypes:=#[dT,sT]})(hx:u.eval x=s1)(hy:u.eval y=s2)
  (hr:(Builtin.copy_ #[dT,sT] o.type #[s1,s2]).run P W= .ok v W'):(execOp u.eval o).run P W= .ok (.value v) W':=by
 unfold execOp;simp only[ho,resolve,invoke,builtin,Sem.run_bind,Sem.run_pure,Result.andThen_ok,List.map_toArray,List.map_cons,List.map_nil,hx,hy,hr]
theorem rowShape{w:World}{base n size:Nat}{e:TypeId}{v:Value}{xs:List Value}(h:w.ownsRow base e size v n xs):(v= .slice none 0 0/\n=0)\/ ∃g cap,v= .slice (some ⟨g,0,none⟩) n cap:=by
 rcases h.2 with⟨h1,h2⟩|⟨g,cap,cur,rfl,_⟩
 ·exact Or.inl ⟨h1,h2⟩
 exact Or.inr ⟨g,cap,rfl⟩
theorem zTv(w:World)(row:Option Nat):w.grownBy w row:=⟨rfl,rfl,rfl,Nat.le_refl _,fun _ _ _=>rfl⟩
theorem zAk{P:Program}{ops:Array Oper}{rest:List Oper}{o:Oper}{a:Act}{Q:Exit->Act->World->Prop}(w:World)(hgd:o.guard=none)(s x:Operand)(t:TypeId)
  (ho:o.op= .call {callee:= .builtin .append,args:=#[s,x],argTypes:=#[t,t]})
  (base:Nat)(e:TypeId)(i:TypeInfo)(z:Value)(size bytes:Nat)(ht:P.underlying t=some (.slice e))(hi:P.info? e=some i)(hz:i.zero=some z)
  (hsize:i.size=size)(hby:i.bytes=bytes)(hzs:z.cells.size=size)(hsz:0<size)
  (v:Value)(n:Nat)(xs:List Value)(hs:a.eval s=v)(hown:w.ownsRow base e size v n xs)
  (base2:Nat)(u:Value)(m:Nat)(news:List Value)(hx:a.eval x=u)(hu:w.ownsRow base2 e size u m news)(h1: ∀u∈news,u.oneCell'=true)
  (h63:n+m<=maxLen)(hbytes:(n+m)*bytes<=140737488355328)(hbase:base<=w.heap.size)
  (h: ∀v' w',w'.ownsRow base e size v' (n+m) (xs++news)->w.grownBy w' v.ownBlock->wpList P ops Q rest (a.put o.dst v') w'):wpList P ops Q (o::rest) a w:=by
 rcases rowShape hu with⟨rfl,rfl⟩|⟨g,cap,rfl⟩
 ·have hn:news=[]:=List.eq_nil_of_length_eq_zero (by have:=hu.1;omega)
  subst hn;refine wpList_append_own_none hgd s x t ho base e i size ht hi v n xs hs hown hx (h v w ?_ (zTv _ _));rw[List.append_nil];exact hown
 exact wpList_append_own _ hgd s x t ho base e i z size bytes ht hi hz hsize hby hzs hsz v n xs hs hown ⟨g,0,none⟩ m cap news hx hu.1 (World.ownsRow.cells hu rfl) h1 h63 hbytes hbase fun v' w' a b _=>h v' w' a b
end
end Go.Proofs.YtkdflpplamebkaaGreatDoor
