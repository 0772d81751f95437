/-
 HookPlays returns true at every three numbers and every list of acts, and changes nothing that was there: what comes of events, in which rounds, is what the document says, whatever is put in and taken out. Conditions: the library's variable errors.errorType and the document's variable of all numbers z4c as the program's text lays them.
-/
import Derived.Test.YtabjjgkmegcacaaGreatDoorJq15
import Derived.Test.YtabjjgkmegcacaaGreatDoorTie
import Derived.Test.YtabjjgkmegcacaaGreatDoorCards
import Derived.JoinedOf
import Derived.LaidLaws
import Derived.LaidHandle
import Derived.Stop.Joined
import Derived.SevenTiedAt
import Derived.Deep.DeepLaidRun
import Derived.Lib.SmallJoins
import Derived.Lib.LaidU8
import Derived.Test.YtabjjgkmegcacaaGreatDoorJq0
set_option maxHeartbeats 40000000
set_option maxRecDepth 1000000
set_option linter.defProp false
set_option linter.unusedVariables false
set_option linter.unusedSimpArgs false
namespace Go.Proofs.YtabjjgkmegcacaaGreatDoor
open Go.ChangeShapes Go.WideShapes Go.ChangeAt Go.RowKit
open Go.Joins
set_option linter.unusedVariables false
theorem plays_all(m:Nat→Int)(a:Option Addr)(cap:Nat)(xs:List Ab)(w:World)(hX:zZr w a xs)(hA:z2z w)(hg:z1i w):zR 3 #[.agg #[.int .i64 (m 0),.int .i64 (m 1),.int .i64 (m 2)],.slice a xs.length cap] w (.bool true):=by
 by_cases h:xs.length≤60
 ·by_cases hm: ∀k,k<3→1≤m k∧m k≤1000
  ·exact zN5 m a cap xs w h hm hX hA hg
  ·have ok: ∀k,(1≤m k∧m k≤1000)∨(m k<1∨1000<m k):=fun k=>by omega
   rcases ok 0 with h0|h0
   ·rcases ok 1 with h1|h1
    ·rcases ok 2 with h2|h2
     ·exact absurd (fun k hk=>by rcases(show k=0∨k=1∨k=2 by omega)with rfl|rfl|rfl<;>assumption) hm
     ·exact zAo m a _ cap h 2 (by decide) (fun k hk=>by rcases(show k=0∨k=1 by omega)with rfl|rfl;exact h0.1;exact h1.1) (fun k hk=>by rcases(show k=0∨k=1 by omega)with rfl|rfl;exact h0.2;exact h1.2) h2 w hg
    ·exact zAo m a _ cap h 1 (by decide) (fun k hk=>by rw[show k=0 by omega];exact h0.1) (fun k hk=>by rw[show k=0 by omega];exact h0.2) h1 w hg
   ·exact zAo m a _ cap h 0 (by decide) (fun k hk=>absurd hk (Nat.not_lt_zero _)) (fun k hk=>absurd hk (Nat.not_lt_zero _)) h0 w hg
 ·exact zN6 m a _ cap (by omega) w
theorem own:ownKnob Tryz.prog.godebug=none:=by kernel_rfl
theorem laidOut:laidOutB Tryz.prog=true:=by kernel_rfl
theorem et:Tryz.prog.globalNamed "errors.errorType" =some 1:=by kernel_rfl
theorem rt:(Tryz.prog.cutTypes.find? (·.1== "internal/reflectlite.rtype")).map (·.2)=some 231:=by kernel_rfl
theorem oneRow:((List.range 320).filter fun t=>Tryz.prog.rowNamed t [101,114,114,111,114])=[26]:=by kernel_rfl
theorem ntypes:Tryz.prog.types.size=320:=by kernel_rfl
theorem var_lt{P:Program}{w:World}{n:String}{g:Nat}{cs:Array Value}(hg:P.globalNamed n=some g)(h:w.var? P n=some cs):g<w.heap.size:=by
 rcases Nat.lt_or_ge g w.heap.size with k|k
 ·exact k
 ·simp[World.var?,hg,Array.getElem?_eq_none k]at h
theorem laid_all{W:World}(h':laidMet Tryz.prog [("gatehouse/gatehouseref.all",Rows.laid_gatehouse_gatehouseref_all)] W):z2z W:=by
 obtain⟨g,t,cs,fuel,p,hg,hty,hvar,hd⟩:=Lib.laidMet.reads h' (n:= "gatehouse/gatehouseref.all") (d:=Rows.laid_gatehouse_gatehouseref_all) (by simp)
 obtain rfl:=Option.some.inj ((show Tryz.prog.globalNamed "gatehouse/gatehouseref.all" =some 0 by kernel_rfl).symm.trans hg)
 obtain rfl:=Option.some.inj ((show(Tryz.prog.globals[0]?).map (·.type)=some 110 by kernel_rfl).symm.trans hty)
 have hl:=Lib.ints_of_struct (zs:=[-9223372036854775808,9223372036854775807]) (k:= .i64) Tryz.underlying110 (fun i f hf=>by
  rcases i with _|_|i
  ·obtain rfl:=Option.some.inj hf;exact⟨Tryz.underlying2,rfl,by kernel_rfl⟩
  ·obtain rfl:=Option.some.inj hf;exact⟨Tryz.underlying2,rfl,by kernel_rfl⟩
  ·simp at hf) (by kernel_rfl) hd
 have hx:cs=#[.int .i64 (-9223372036854775808),.int .i64 9223372036854775807]:=by
  have e:=congrArg List.toArray hl
  simpa using e
 subst hx
 exact⟨var_lt hg hvar,(World.var?_cell hg hvar 0).trans rfl,(World.var?_cell hg hvar 1).trans rfl⟩
theorem handle_met{W:World}(h:handlesMet Tryz.prog [("errors.errorType",Rows.laid_errors_errorType)] W):z1i W:=by
 obtain⟨name,u,ty,e1,e2,e3,e4,e5⟩:=h _ (List.mem_singleton.2 rfl)
 have en:name=[101,114,114,111,114]:=(Option.some.inj e1).symm
 subst en
 obtain rfl:=Option.some.inj (rt.symm.trans e2)
 have hm:ty∈(List.range 320).filter fun t=>Tryz.prog.rowNamed t [101,114,114,111,114]:=List.mem_filter.2 ⟨List.mem_range.2 (by rw[←ntypes];exact e3),e4⟩
 rw[oneRow]at hm
 obtain rfl:=List.mem_singleton.1 hm
 have hh:typeHandle Tryz.prog 26= .pointer (some ⟨2,26,none⟩):=by kernel_rfl
 rw[hh]at e5
 unfold z1i
 simpa using World.var?_cell et e5 0
def laidHeap(h:Array Obj):Array Obj:=
 let put (g:Nat) (cs:Array Value) (h:Array Obj):Array Obj:=h.modify g fun
  | .cells _ t frozen=> .cells cs t frozen
  |o=>o
 put 1 #[.iface 231 (.agg #[.pointer (some ⟨2,26,none⟩)])] (put 0 #[.int .i64 (-9223372036854775808),.int .i64 9223372036854775807] h)
def laidW(w:World):World:={w with heap:=laidHeap w.heap}
theorem start_met(os:Os)(args:Array Value):laidMetH Tryz.prog Rows.hookPlaysRow.laid ((laidW (World.holding Tryz.prog os ⟨#[], #[],[]⟩)).forCall (fun _ _=>0) ⟨#[],args,[]⟩).memory:=
 laidMetH_of_parts (laidMet_of_run3 8 (by kernel_rfl) (by kernel_rfl) (by kernel_rfl)) (by kernel_rfl)
theorem laid_both{W:World}(h:laidMetH Tryz.prog Rows.hookPlaysRow.laid W):z2z W∧z1i W:=by
 have h':laidMet Tryz.prog [("gatehouse/gatehouseref.all",Rows.laid_gatehouse_gatehouseref_all)] W∧handlesMet Tryz.prog [("errors.errorType",Rows.laid_errors_errorType)] W:=h
 exact⟨laid_all h'.1,handle_met h'.2⟩

set_option maxRecDepth 100000 in
theorem lifted(os:Os)(started:os.Started)(H:Type)(enc:TypeId×Value→H):
  ReturnsInHanded {} Tryz.checked os 3 .any (fun w args=>(Rows.hookPlaysSpec.pre enc Tryz.prog Tryz.f3 [] false w args∧laidMetH Tryz.prog Rows.hookPlaysRow.laid w)∧sizedMet enc Tryz.prog Tryz.f3 (OpenSpec.ofChange Rows.hookPlaysSpec) false w args)
   (Rows.hookPlaysSpec.post enc Tryz.prog Tryz.f3 false true false false):=by
 refine returnsInHanded_of_change_and (C:=Tryz.checked) (X:=fun w _=>laidMetH Tryz.prog Rows.hookPlaysRow.laid w) (fun _ _ _ hh h=>h.of_heap hh) own started (by kernel_rfl) Tryz.func3
  (ChangeSpec.witness_at (enc:=enc) (C:=Tryz.checked) (os:=os) (X:=fun w _=>laidMetH Tryz.prog Rows.hookPlaysRow.laid w) false (laidW (World.holding Tryz.prog os ⟨#[], #[],[]⟩)) #[.agg #[.int .i64 0,.int .i64 0,.int .i64 0],.slice none 0 0] 8 rfl (by kernel_rfl) (by kernel_rfl) (by kernel_rfl) (by kernel_rfl) (by kernel_rfl) (start_met os _)) ?_
 intro W base args ds gs before hval0 hW _ _ hL _
 have hval: ∀(j:Nat) t v,Tryz.f3.params[j]?=some t→args[j]?=some v→Value.okWide Tryz.prog W .any base t v:=hval0
 have hW':=hW
 obtain⟨p,q,hA0,hV0,rfl,hfz,hnd⟩:=hW
 have hA:DataW.TrodAll enc Tryz.prog W 0 (fun _=>true) true Tryz.f3.params.toList args.toList ds p:=hA0
 have hV:DataW.TrodVars enc Tryz.prog W (fun _=>true) [] gs q:=hV0
 rw[Tryz.params3]at hA hval
 obtain⟨v0,vs0,d0,ds0,p0,q0,hargs,rfl,rfl,h0,r0⟩:=trodAll_cons hA
 obtain⟨v1,vs1,d1,ds1,p1,q1,rfl,rfl,rfl,h1,r1⟩:=trodAll_cons r0
 obtain⟨rfl,rfl,rfl⟩:=trodAll_nil r1
 obtain rfl:args=#[v0,v1]:=by cases args;simp_all
 obtain⟨rfl,rfl⟩:=trodVars_none hV
 obtain⟨m,hv0⟩:=zMl (hval 0 22 v0 rfl rfl) h0
 obtain⟨a1,len1,cap1,rfl⟩:=okWide_slice Tryz.underlying23 (hval 1 23 v1 rfl rfl)
 obtain⟨xs,hxl,hxs⟩:=zSf h1
 have lt0: ∀x∈p0,x.block<W.heap.size:=by obtain⟨m,hm⟩:=h0;exact DataW.trod_lt m _ _ _ hm
 have lt1: ∀x∈p1,x.block<W.heap.size:=by obtain⟨m,hm⟩:=h1;exact DataW.trod_lt m _ _ _ hm
 obtain⟨hAll,hg⟩:=laid_both hL
 have hwalk:=plays_all m a1 cap1 xs W hxs hAll hg
 rw[hxl, ←hv0]at hwalk
 refine hwalk.mono fun e W' ⟨he,bel⟩=>?_
 subst he
 exact⟨_,rfl,_,_,_,[],_,[],hW',trodAll_mk1 (shut_bool Tryz.underlying4 _),trodAll_cons_mk (Below.trod laidOut (by kernel_rfl) (of_decide_eq_true (by kernel_rfl)) h0 bel lt0) (trodAll_cons_mk (Below.trod laidOut (by kernel_rfl) (of_decide_eq_true (by kernel_rfl)) h1 bel lt1) trodAll_mk0),rfl,bel.frame _,fun h=>by cases h⟩

theorem hookPlays_row:Rows.HookPlaysSaid:=
 OpenClaim.holds_of_wide 3 Tryz.f3 rfl rfl rfl rfl rfl rfl rfl ⟨rfl,rfl,rfl,rfl,rfl⟩ rfl rfl rfl rfl rfl (by kernel_rfl) Tryz.func3 (by kernel_rfl)
  (of_decide_eq_true (by kernel_rfl)) (by unfold Func.isWrapper;rw[if_neg (of_decide_eq_false (by kernel_rfl))];exact⟨rfl,rfl⟩)
  (fun os started H enc _=>lifted os started H enc)
theorem hookPlays_holds:Rows.HookPlaysCardSaid:=
 Claim7.holds_tied_plain_at .later [] [.handle,.data] true Rows.hookPlaysCard.stood.harness true
  hookPlays_row (fun _ h=>by cases h) (by kernel_rfl) (fun _ h=>by cases h) hookPlays_row_tie rfl ⟨rfl,rfl⟩ (by kernel_rfl) rfl
  (fun f fn hf hfn=>by
   obtain rfl:f=3:=Option.some.inj ((show Tryz.prog.funcNamed "gatehouse/gatehouselaw.HookPlays" =some 3 by kernel_rfl).symm.trans hf)|>.symm
   obtain rfl:fn=Tryz.f3:=(Option.some.inj (Tryz.func3.symm.trans hfn)).symm
   exact⟨by kernel_rfl,fun j t ht=>by
    rw[Tryz.params3]at ht
    have h3:t=22∨t=23:=by
     rcases j with _|_|j
     ·exact Or.inl (by simpa using ht.symm)
     ·exact Or.inr (by simpa using ht.symm)
     ·simp at ht
    rcases h3 with rfl|rfl
    ·exact(show Tryz.prog.wantsStandIn 22=false by kernel_rfl)
    ·exact(show Tryz.prog.wantsStandIn 23=false by kernel_rfl)⟩)
  (by kernel_rfl)
#print axioms hookPlays_holds
end Go.Proofs.YtabjjgkmegcacaaGreatDoor
