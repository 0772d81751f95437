/-
A part of the proof of DeskPieces; its card says what is proved.
-/
import Derived.Stop.Asserts
import Derived.Test.YtkdflpplamebkaaGreatDoorJp33
import Derived.Deep.Slices
set_option maxHeartbeats 40000000
open Go.Value renaming int → A
open Go.IntKind renaming i64 → E
open Go.RowKit.Below renaming alloc → bA, setCell → bS, drew → bD, refl → bF
set_option maxRecDepth 1000000
set_option linter.defProp false
set_option linter.unusedVariables false
set_option linter.unusedSimpArgs false
open Go.Ending renaming returned → rT
open Go.Value renaming pointer → pT
open Go.Obj renaming cells → cT
open Go.Proofs.Tryz renaming prog → tP
namespace Go.Proofs.YtkdflpplamebkaaGreatDoor
section
open Go.RowKit Go.Extern.Stop Go.Stop Go.Extern
theorem zPo(t:Addr)(w:World):(ReflectliteValue.unpack (.iface 202 (pT (some t)))).run tP w
  = .ok (.agg #[pT (some ⟨11,202,none⟩),pT (some ⟨w.heap.size,0,none⟩),.int .u64 150]) (w.alloc (cT #[pT (some t)] 202)):=by kernel_rfl
theorem zPp(x:Int)(w:World):(ReflectliteValue.unpack (.iface 33 (A E x))).run tP w
  = .ok (.agg #[pT (some ⟨11,33,none⟩),pT (some ⟨w.heap.size,0,none⟩),.int .u64 130]) (w.alloc (cT #[A E x] 33)):=by kernel_rfl
theorem mkE(p:Addr)(w:World):(ReflectliteValue.mk 33 p ReflectliteValue.flagAddr).run tP w= .ok (.agg #[pT (some ⟨11,33,none⟩),pT (some p),.int .u64 386]) w:=kR
theorem typeP(a:Addr)(w:World):(ReflectliteValue.methodAny (ReflectliteValue.valueError "reflectlite.Value.Type" 0) (fun t _ _ _=>ReflectliteType.toType t) #[.agg #[pT (some ⟨11,202,none⟩),pT (some a),.int .u64 150]]).run tP w
  = .ok (.iface 271 (.agg #[pT (some ⟨11,202,none⟩)])) w:=by kernel_rfl
theorem kindP(w:World):((ReflectliteType.abiMethod fun t=>(fun a:Nat=>Value.int IntKind.u8 (a:Int))<$>Rtype.kind t) #[pT (some ⟨11,202,none⟩)]).run tP w= .ok (.int .u8 22) w:=kR
theorem kindE(w:World):((ReflectliteType.abiMethod fun t=>(fun a:Nat=>Value.int IntKind.u8 (a:Int))<$>Rtype.kind t) #[pT (some ⟨11,33,none⟩)]).run tP w= .ok (.int .u8 2) w:=kR
theorem elemP(w:World):(ReflectliteType.method ReflectliteType.elem #[.agg #[pT (some ⟨11,202,none⟩)]]).run tP w= .ok (.iface 271 (.agg #[pT (some ⟨11,33,none⟩)])) w:=kR
theorem implE(w:World):(ReflectliteType.relation "Implements" ReflectliteType.implements_ #[.agg #[pT (some ⟨11,33,none⟩)],.iface 271 (.agg #[pT (some ⟨11,29,none⟩)])]).run tP w= .ok (.bool true) w:=kR
theorem zV9(v:Value)(w:World):(ReflectliteType.typeOf #[.iface 33 v]).run tP w= .ok (.iface 271 (.agg #[pT (some ⟨11,33,none⟩)])) w:=kR
theorem zVa(v:Value)(w:World):(ReflectliteType.typeOf #[.iface 166 v]).run tP w= .ok (.iface 271 (.agg #[pT (some ⟨11,166,none⟩)])) w:=kR
theorem assE(w:World):(ReflectliteType.relation "AssignableTo" ReflectliteType.assignableTo #[.agg #[pT (some ⟨11,33,none⟩)],.iface 271 (.agg #[pT (some ⟨11,33,none⟩)])]).run tP w= .ok (.bool true) w:=kR
theorem assA(w:World):(ReflectliteType.relation "AssignableTo" ReflectliteType.assignableTo #[.agg #[pT (some ⟨11,166,none⟩)],.iface 271 (.agg #[pT (some ⟨11,33,none⟩)])]).run tP w= .ok (.bool false) w:=kR
theorem q40(a:Addr)(w:World):(ReflectliteValue.parts (.agg #[pT (some ⟨11,202,none⟩),pT (some a),.int .u64 150])).run tP w= .ok (some (202,a,150)) w:=kR
theorem partsE(a:Addr)(w:World):(ReflectliteValue.parts (.agg #[pT (some ⟨11,33,none⟩),pT (some a),.int .u64 130])).run tP w= .ok (some (33,a,130)) w:=kR
theorem q55(a:Addr)(w:World):(ReflectliteValue.parts (.agg #[pT (some ⟨11,33,none⟩),pT (some a),.int .u64 386])).run tP w= .ok (some (33,a,386)) w:=kR
theorem q6g(w:World):(Rtype.directlyAssignable 33 33).run tP w= .ok true w:=kR
theorem q65(w:World):(Rtype.elem? 202).run tP w= .ok (some 33) w:=kR
theorem zKe(z:Sem Value)(f:TypeId->Addr->Nat->Nat->Sem Value)(v:Value):
  ReflectliteValue.method z f #[v]=(do match<-ReflectliteValue.parts v with|none=>z|some (t,a,fl)=>f t a fl (fl%32)):=rfl
theorem q43(a p:Addr)(W:World)(ha:W.cell? a=some (pT (some p))):
  (ReflectliteValue.method (ReflectliteValue.valueError "reflectlite.Value.IsNil" 0) ReflectliteValue.isNil #[.agg #[pT (some ⟨11,202,none⟩),pT (some a),.int .u64 150]]).run tP W= .ok (.bool false) W:=by
 rw[zKe];simp only[Sem.run_bind,q40,Result.andThen];simp[ReflectliteValue.isNil,loadVar,isAgg,underlying,Tryz.underlying202,ha,Result.andThen]
theorem q4c(a p:Addr)(W:World)(ha:W.cell? a=some (pT (some p))):
  (ReflectliteValue.method (ReflectliteValue.valueError "reflectlite.Value.Elem" 0) ReflectliteValue.elem #[.agg #[pT (some ⟨11,202,none⟩),pT (some a),.int .u64 150]]).run tP W
   = .ok (.agg #[pT (some ⟨11,33,none⟩),pT (some p),.int .u64 386]) W:=by
 rw[zKe];simp only[Sem.run_bind,q40,Result.andThen];simp[ReflectliteValue.elem,loadVar,isAgg,underlying,Tryz.underlying202,ha,Result.andThen,q65,mkE]
theorem q0q{v x:Value}(h1:(v x:Value)->Sem Value)(h2:(x:Array Value)->Sem Value):ReflectliteValue.set.match_3 (fun _=>Sem Value) #[v,x] h1 h2=h1 v x:=rfl
theorem setE(ta b:Addr)(x:Int)(old:Value)(W:World)(hb:W.cell? b=some (A E x))(ht:W.cell? ta=some old)(hf:W.frozen? ta=false):
  (ReflectliteValue.set #[.agg #[pT (some ⟨11,33,none⟩),pT (some ta),.int .u64 386],.agg #[pT (some ⟨11,33,none⟩),pT (some b),.int .u64 130]]).run tP W
   = .ok (.tuple #[]) (W.setCell ta (A E x)):=by
 delta ReflectliteValue.set
 dsimp only;rw[q0q];simp only[Sem.run_bind,q55,partsE,Result.andThen];simp[ReflectliteValue.flagAddr,loadVar,isAgg,underlying,Tryz.underlying33,hb,Result.andThen,q6g,storeVar,Value.cells,storeCells,Addr.add];rw[run_store tP W ta _ _ kI];simp[ht,hf]
theorem mKind(h:Value)(w:World):(Go.method 450 271 (.agg #[h]) "Kind").run tP w= .ok ((242,h):FuncId×Value) w:=kR
theorem mElem(h:Value)(w:World):(Go.method 450 271 (.agg #[h]) "Elem").run tP w= .ok ((258,.agg #[h]):FuncId×Value) w:=kR
theorem mImpl(h:Value)(w:World):(Go.method 450 271 (.agg #[h]) "Implements").run tP w= .ok ((259,.agg #[h]):FuncId×Value) w:=kR
theorem mAss(h:Value)(w:World):(Go.method 450 271 (.agg #[h]) "AssignableTo").run tP w= .ok ((256,.agg #[h]):FuncId×Value) w:=kR
theorem noAsA(v:Value)(k:TypeId)(w:World):(Instr.typeAssert (.iface 166 v) k 276 true).run tP w= .ok (.tuple #[.nilIface,.bool false]) w:=run_typeAssert_lacksB Tryz.underlying276 kR kR v k w
theorem q4q(v:Value)(k:TypeId)(w:World):(Instr.typeAssert (.iface 166 v) k 279 true).run tP w= .ok (.tuple #[.iface 166 v,.bool true]) w:=run_typeAssert_hasB Tryz.underlying279 kR v k w
theorem q5o(a:Addr)(w:World):(Go.method 450 166 (pT (some a)) "Unwrap").run tP w= .ok ((248,pT (some a)):FuncId×Value) w:=kR
theorem q3k(x:Int)(t:Addr)(old:Value)(w:World)(hg:w.cell? ⟨1,0,none⟩=some (.iface 271 (.agg #[pT (some ⟨11,29,none⟩)])))(ht0:w.cell? t=some old)(hf0:w.frozen? t=false):
  Calls tP 112 #[.iface 33 (A E x),.iface 202 (pT (some t))] w fun ev w'=>ev= rT (.bool true)/\w'=((((w.alloc (cT #[pT (some t)] 202)).alloc (cT #[pT (some ⟨11,202,none⟩),pT (some ⟨w.heap.size,0,none⟩),.int .u64 150] 230)).alloc (cT #[pT (some ⟨11,202,none⟩),pT (some ⟨w.heap.size,0,none⟩),.int .u64 150] 230)).alloc (cT #[A E x] 33)).setCell t (A E x):=by
 have x0:= @run_callFunc_extern tP 147 _ (fun args=>ReflectliteValue.unpack (args.getD 0 (.tuple #[]))) Tryz.func147 kR kR kR kR
 have x1:= @run_callFunc_extern tP 148 _ (ReflectliteValue.methodAny (ReflectliteValue.valueError "reflectlite.Value.Type" 0) (fun t _ _ _=>ReflectliteType.toType t)) Tryz.func148 kR kR kR kR
 have x2:= @run_callFunc_extern tP 149 _ (ReflectliteValue.method (ReflectliteValue.valueError "reflectlite.Value.IsNil" 0) ReflectliteValue.isNil) Tryz.func149 kR kR kR kR
 have x3:= @run_callFunc_extern tP 242 _ (ReflectliteType.abiMethod fun t=>do pure (.int .u8 (<-Rtype.kind t))) Tryz.func242 kR kR kR kR;have x4:= @run_callFunc_extern tP 258 _ (ReflectliteType.method ReflectliteType.elem) Tryz.func258 kR kR kR kR
 have x5:= @run_callFunc_extern tP 259 _ (ReflectliteType.relation "Implements" ReflectliteType.implements_) Tryz.func259 kR kR kR kR
 have x6:= @run_callFunc_extern tP 183 _ ReflectliteType.typeOf Tryz.func183 kR kR kR kR
 have x7:= @run_callFunc_extern tP 256 _ (ReflectliteType.relation "AssignableTo" ReflectliteType.assignableTo) Tryz.func256 kR kR kR kR
 have x8:= @run_callFunc_extern tP 184 _ (ReflectliteValue.method (ReflectliteValue.valueError "reflectlite.Value.Elem" 0) ReflectliteValue.elem) Tryz.func184 kR kR kR kR
 have x9:= @run_callFunc_extern tP 185 _ ReflectliteValue.set Tryz.func185 kR kR kR kR;have q0:=zPo;have q1:=typeP;have q2:=kindP;have q3:=kindE;have q4:=elemP;have q5:=implE;have q6:=zV9;have q7:=zVa;have q8:=assE;have q9:=assA;have q10:=zPp;have q11:=mKind;have q12:=mElem;have q13:=mImpl;have q14:=mAss;have n8:=q43 ⟨w.heap.size,0,none⟩ t ((w.alloc (cT #[pT (some t)] 202)).alloc (cT #[pT (some ⟨11,202,none⟩),pT (some ⟨w.heap.size,0,none⟩),.int .u64 150] 230)) kS
 have hlt:1<w.heap.size:=by
  rcases Nat.lt_or_ge 1 w.heap.size with h|h
  ·exact h
  ·simp[World.cell?,Array.getElem?_eq_none h]at hg
 have hg2:((w.alloc (cT #[pT (some t)] 202)).alloc (cT #[pT (some ⟨11,202,none⟩),pT (some ⟨w.heap.size,0,none⟩),.int .u64 150] 230)).cell? ⟨1,0,none⟩=some (.iface 271 (.agg #[pT (some ⟨11,29,none⟩)])):=by
  rw[World.cell?_alloc_lt _ _ ⟨1,0,none⟩ kZ,World.cell?_alloc_lt _ _ ⟨1,0,none⟩ hlt];exact hg
 have htl:t.block<w.heap.size:=by
  rcases Nat.lt_or_ge t.block w.heap.size with h|h
  ·exact h
  ·simp[World.cell?,Array.getElem?_eq_none h]at ht0
 have el:=q4c ⟨w.heap.size,0,none⟩ t (((w.alloc (cT #[pT (some t)] 202)).alloc (cT #[pT (some ⟨11,202,none⟩),pT (some ⟨w.heap.size,0,none⟩),.int .u64 150] 230)).alloc (cT #[pT (some ⟨11,202,none⟩),pT (some ⟨w.heap.size,0,none⟩),.int .u64 150] 230)) (by rw[World.cell?_alloc_lt _ _ ⟨w.heap.size,0,none⟩ kZ,World.cell?_alloc_lt _ _ ⟨w.heap.size,0,none⟩ kS,World.cell?_alloc_at _ _ _ _ kS];rfl)
 have st:=setE t ⟨w.heap.size+1+1+1,0,none⟩ x old ((((w.alloc (cT #[pT (some t)] 202)).alloc (cT #[pT (some ⟨11,202,none⟩),pT (some ⟨w.heap.size,0,none⟩),.int .u64 150] 230)).alloc (cT #[pT (some ⟨11,202,none⟩),pT (some ⟨w.heap.size,0,none⟩),.int .u64 150] 230)).alloc (cT #[A E x] 33))
  (by rw[World.cell?_alloc_at _ _ _ _ kS];rfl)
  (by rw[World.cell?_alloc_lt _ _ t kZ,World.cell?_alloc_lt _ _ t kZ,World.cell?_alloc_lt _ _ t kZ,World.cell?_alloc_lt _ _ t htl];exact ht0)
  (by rw[World.frozen?_alloc_old _ _ t kZ,World.frozen?_alloc_old _ _ t kZ,World.frozen?_alloc_old _ _ t kZ,World.frozen?_alloc_old _ _ t (Nat.ne_of_lt htl)];exact hf0)
 go_enter Tryz.func112,Tryz.ntmps112;go_wp2;refine wp_loop_rounds 1 ?_;rw[rounds_succ];go_wp2;go_ret;exact⟨rfl,rfl⟩
theorem as_at(x:Int)(p t:Addr)(old:Value)(w:World)(hp:w.cell? p=some (A E x))(hg:w.cell? ⟨1,0,none⟩=some (.iface 271 (.agg #[pT (some ⟨11,29,none⟩)])))(ht0:w.cell? t=some old)(hf0:w.frozen? t=false):
  Calls tP 112 #[.iface 166 (pT (some p)),.iface 202 (pT (some t))] w fun ev w'=>ev= rT (.bool true)/\w'=((((w.alloc (cT #[pT (some t)] 202)).alloc (cT #[pT (some ⟨11,202,none⟩),pT (some ⟨w.heap.size,0,none⟩),.int .u64 150] 230)).alloc (cT #[pT (some ⟨11,202,none⟩),pT (some ⟨w.heap.size,0,none⟩),.int .u64 150] 230)).alloc (cT #[A E x] 33)).setCell t (A E x):=by
 have x0:= @run_callFunc_extern tP 147 _ (fun args=>ReflectliteValue.unpack (args.getD 0 (.tuple #[]))) Tryz.func147 kR kR kR kR
 have x1:= @run_callFunc_extern tP 148 _ (ReflectliteValue.methodAny (ReflectliteValue.valueError "reflectlite.Value.Type" 0) (fun t _ _ _=>ReflectliteType.toType t)) Tryz.func148 kR kR kR kR
 have x2:= @run_callFunc_extern tP 149 _ (ReflectliteValue.method (ReflectliteValue.valueError "reflectlite.Value.IsNil" 0) ReflectliteValue.isNil) Tryz.func149 kR kR kR kR
 have x3:= @run_callFunc_extern tP 242 _ (ReflectliteType.abiMethod fun t=>do pure (.int .u8 (<-Rtype.kind t))) Tryz.func242 kR kR kR kR;have x4:= @run_callFunc_extern tP 258 _ (ReflectliteType.method ReflectliteType.elem) Tryz.func258 kR kR kR kR
 have x5:= @run_callFunc_extern tP 259 _ (ReflectliteType.relation "Implements" ReflectliteType.implements_) Tryz.func259 kR kR kR kR
 have x6:= @run_callFunc_extern tP 183 _ ReflectliteType.typeOf Tryz.func183 kR kR kR kR
 have x7:= @run_callFunc_extern tP 256 _ (ReflectliteType.relation "AssignableTo" ReflectliteType.assignableTo) Tryz.func256 kR kR kR kR
 have x8:= @run_callFunc_extern tP 184 _ (ReflectliteValue.method (ReflectliteValue.valueError "reflectlite.Value.Elem" 0) ReflectliteValue.elem) Tryz.func184 kR kR kR kR
 have x9:= @run_callFunc_extern tP 185 _ ReflectliteValue.set Tryz.func185 kR kR kR kR;have q0:=zPo;have q1:=typeP;have q2:=kindP;have q3:=kindE;have q4:=elemP;have q5:=implE;have q6:=zV9;have q7:=zVa;have q8:=assE;have q9:=assA;have q10:=zPp;have q11:=mKind;have q12:=mElem;have q13:=mImpl;have q14:=mAss;have n8:=q43 ⟨w.heap.size,0,none⟩ t ((w.alloc (cT #[pT (some t)] 202)).alloc (cT #[pT (some ⟨11,202,none⟩),pT (some ⟨w.heap.size,0,none⟩),.int .u64 150] 230)) kS
 have hlt:1<w.heap.size:=by
  rcases Nat.lt_or_ge 1 w.heap.size with h|h
  ·exact h
  ·simp[World.cell?,Array.getElem?_eq_none h]at hg
 have hg2:((w.alloc (cT #[pT (some t)] 202)).alloc (cT #[pT (some ⟨11,202,none⟩),pT (some ⟨w.heap.size,0,none⟩),.int .u64 150] 230)).cell? ⟨1,0,none⟩=some (.iface 271 (.agg #[pT (some ⟨11,29,none⟩)])):=by
  rw[World.cell?_alloc_lt _ _ ⟨1,0,none⟩ kZ,World.cell?_alloc_lt _ _ ⟨1,0,none⟩ hlt];exact hg
 have htl:t.block<w.heap.size:=by
  rcases Nat.lt_or_ge t.block w.heap.size with h|h
  ·exact h
  ·simp[World.cell?,Array.getElem?_eq_none h]at ht0
 have el:=q4c ⟨w.heap.size,0,none⟩ t (((w.alloc (cT #[pT (some t)] 202)).alloc (cT #[pT (some ⟨11,202,none⟩),pT (some ⟨w.heap.size,0,none⟩),.int .u64 150] 230)).alloc (cT #[pT (some ⟨11,202,none⟩),pT (some ⟨w.heap.size,0,none⟩),.int .u64 150] 230)) (by rw[World.cell?_alloc_lt _ _ ⟨w.heap.size,0,none⟩ kZ,World.cell?_alloc_lt _ _ ⟨w.heap.size,0,none⟩ kS,World.cell?_alloc_at _ _ _ _ kS];rfl)
 have st:=setE t ⟨w.heap.size+1+1+1,0,none⟩ x old ((((w.alloc (cT #[pT (some t)] 202)).alloc (cT #[pT (some ⟨11,202,none⟩),pT (some ⟨w.heap.size,0,none⟩),.int .u64 150] 230)).alloc (cT #[pT (some ⟨11,202,none⟩),pT (some ⟨w.heap.size,0,none⟩),.int .u64 150] 230)).alloc (cT #[A E x] 33))
  (by rw[World.cell?_alloc_at _ _ _ _ kS];rfl)
  (by rw[World.cell?_alloc_lt _ _ t kZ,World.cell?_alloc_lt _ _ t kZ,World.cell?_alloc_lt _ _ t kZ,World.cell?_alloc_lt _ _ t htl];exact ht0)
  (by rw[World.frozen?_alloc_old _ _ t kZ,World.frozen?_alloc_old _ _ t kZ,World.frozen?_alloc_old _ _ t kZ,World.frozen?_alloc_old _ _ t (Nat.ne_of_lt htl)];exact hf0)
 have c1:=noAsA;have c2:=q4q;have c3:=q5o
 have hpl:p.block<w.heap.size:=by
  rcases Nat.lt_or_ge p.block w.heap.size with h|h
  ·exact h
  ·simp[World.cell?,Array.getElem?_eq_none h]at hp
 have hp3:(((w.alloc (cT #[pT (some t)] 202)).alloc (cT #[pT (some ⟨11,202,none⟩),pT (some ⟨w.heap.size,0,none⟩),.int .u64 150] 230)).alloc (cT #[pT (some ⟨11,202,none⟩),pT (some ⟨w.heap.size,0,none⟩),.int .u64 150] 230)).cell? p=some (A E x):=by
  rw[World.cell?_alloc_lt _ _ p kZ,World.cell?_alloc_lt _ _ p kZ,World.cell?_alloc_lt _ _ p hpl];exact hp
 go_enter Tryz.func112,Tryz.ntmps112;go_wp2;refine wp_loop_rounds 2 ?_;rw[rounds_succ];go_wp2;rw[rounds_succ];go_wp2;go_ret;exact⟨rfl,rfl⟩
def z0p(w:World):Prop:=w.cell? ⟨1,0,none⟩=some (.iface 271 (.agg #[pT (some ⟨11,29,none⟩)]))
theorem z0p.pos{w:World}(h:z0p w):1<w.heap.size:=by
 rcases Nat.lt_or_ge 1 w.heap.size with g|g
 ·exact g
 simp[z0p,World.cell?,Array.getElem?_eq_none g]at h
theorem z0p.later{w w':World}(h:z0p w)(hb:Below w.heap.size w w'):z0p w':=(hb.cell (p:=⟨1,0,none⟩) h.pos).trans h
theorem z0p.alloc{w:World}(h:z0p w)(o:Obj):z0p (w.alloc o):=h.later ((bF _ _).alloc (Nat.le_refl _) _)
theorem z9i{w:World}{x:Int}{o1 o2 o3 o4:Obj}:(((((w.alloc (cT #[A E 0] 33)).alloc o1).alloc o2).alloc o3).alloc o4|>.setCell ⟨w.heap.size,0,none⟩ (A E x)).cell? ⟨w.heap.size,0,none⟩=some (A E x)/\
  Below w.heap.size w (((((w.alloc (cT #[A E 0] 33)).alloc o1).alloc o2).alloc o3).alloc o4|>.setCell ⟨w.heap.size,0,none⟩ (A E x)):=by
 constructor
 ·apply World.cell?_setCell_same (u:=A E 0)
  have h:=((((bF (w.alloc (cT #[A E 0] 33)).heap.size (w.alloc (cT #[A E 0] 33))).alloc (Nat.le_refl _) o1).alloc kS o2).alloc (by simp<;>omega) o3).alloc (by simp<;>omega) o4;rw[h.cell (p:=⟨w.heap.size,0,none⟩) kS];simp
 exact((((((bF _ _).alloc (Nat.le_refl _) _).alloc kS _).alloc kZ _).alloc kZ _).alloc kZ _).setCell (Nat.le_refl _) _
theorem z8a(x:Int)(w:World)(hg:z0p w):zR 77 #[.iface 33 (A E x)] w (A E x):=by
 have hg1:=hg.alloc (cT #[A E 0] 33);go_enter Tryz.func77,Tryz.ntmps77;go_wp2_with(go_at_call 112;refine(q3k x ⟨w.heap.size,0,none⟩ (A E 0) _ hg1 kS kS).mono ?_;rintro e w1 ⟨rfl,hw1⟩;obtain⟨t1,t2⟩:=z9i (w:=w) (x:=x);rw[<-hw1]at t1 t2;clear hw1);go_ret;exact⟨rfl,t2⟩
theorem q4s(x:Int)(p:Addr)(w:World)(hg:z0p w)(hp:w.cell? p=some (A E x))(hpl:p.block<w.heap.size):zR 77 #[.iface 166 (pT (some p))] w (A E x):=by
 have hg1:=hg.alloc (cT #[A E 0] 33);have hp1:(w.alloc (cT #[A E 0] 33)).cell? p=some (A E x):=(((bF _ _).alloc (Nat.le_refl _) _).cell hpl).trans hp;go_enter Tryz.func77,Tryz.ntmps77;go_wp2_with(go_at_call 112;refine(as_at x p ⟨w.heap.size,0,none⟩ (A E 0) _ hp1 hg1 kS kS).mono ?_;rintro e w1 ⟨rfl,hw1⟩;obtain⟨t1,t2⟩:=z9i (w:=w) (x:=x);rw[<-hw1]at t1 t2;clear hw1);go_ret;exact⟨rfl,t2⟩
end
section
open Go.ChangeShapes Go.WideShapes Go.ChangeAt Go.RowKit
attribute [local simp] z05 z0a z06
variable {ex:Ext}
abbrev z2c(x:Int):Ending:= .panicked [{v:= .iface 33 (A E x),recovered:=false}]
theorem z4y(w:World):zS 48 #[.nilIface] w (.tuple #[]):=by
 go_enter Tryz.func48,Tryz.ntmps48;go_wp2_with fail;go_end0
 exact⟨rfl,rfl⟩
theorem z4z(t:TypeId)(v:Value)(x:Int)(w:World)(hT:zR 77 #[.iface t v] w (A E x)):Calls tP 48 #[.iface t v] w fun e w'=>e=z2c x/\Below w.heap.size w w':=by
 go_enter Tryz.func48,Tryz.ntmps48;go_wp2_with(first|(go_at_call 77;refine hT.mono ?_;rintro e w1 ⟨rfl,hb1⟩)|fail);exact⟨rfl,rfl,hb1⟩
theorem zVl(a:Value)(w:World):zS 35 #[a,.nilIface] w a:=by
 go_enter Tryz.func35,Tryz.ntmps35;go_wp2_with(first|(go_at_call 48;refine(z4y _).mono ?_;rintro e w1 ⟨rfl,rfl⟩)|fail);go_ret;exact⟨rfl,rfl⟩
theorem zHw(a:Value)(t:TypeId)(v:Value)(x:Int)(w:World)(hT:zR 77 #[.iface t v] w (A E x)):Calls tP 35 #[a,.iface t v] w fun e w'=>e=z2c x/\Below w.heap.size w w':=by
 go_enter Tryz.func35,Tryz.ntmps35;go_wp2_with(first|(go_at_call 48;refine(z4z t v x _ hT).mono ?_;rintro e w1 ⟨rfl,hb1⟩)|fail);exact⟨rfl,rfl,hb1⟩
theorem zS4(a:Value)(w:World):zS 64 #[a,.nilIface] w a:=by
 go_enter Tryz.func64,Tryz.ntmps64;go_wp2_with(first|(go_at_call 48;refine(z4y _).mono ?_;rintro e w1 ⟨rfl,rfl⟩)|fail);go_ret;exact⟨rfl,rfl⟩
theorem zEz(a:Value)(t:TypeId)(v:Value)(x:Int)(w:World)(hT:zR 77 #[.iface t v] w (A E x)):Calls tP 64 #[a,.iface t v] w fun e w'=>e=z2c x/\Below w.heap.size w w':=by
 go_enter Tryz.func64,Tryz.ntmps64;go_wp2_with(first|(go_at_call 48;refine(z4z t v x _ hT).mono ?_;rintro e w1 ⟨rfl,hb1⟩)|fail);exact⟨rfl,rfl,hb1⟩
theorem q0s(a:Value)(w:World):zS 39 #[a,.nilIface] w a:=by
 go_enter Tryz.func39,Tryz.ntmps39;go_wp2_with(first|(go_at_call 48;refine(z4y _).mono ?_;rintro e w1 ⟨rfl,rfl⟩)|fail);go_ret;exact⟨rfl,rfl⟩
theorem zJy(a:Value)(t:TypeId)(v:Value)(x:Int)(w:World)(hT:zR 77 #[.iface t v] w (A E x)):Calls tP 39 #[a,.iface t v] w fun e w'=>e=z2c x/\Below w.heap.size w w':=by
 go_enter Tryz.func39,Tryz.ntmps39;go_wp2_with(first|(go_at_call 48;refine(z4z t v x _ hT).mono ?_;rintro e w1 ⟨rfl,hb1⟩)|fail);exact⟨rfl,rfl,hb1⟩
theorem zS3(a:Value)(w:World):zS 70 #[a,.nilIface] w a:=by
 go_enter Tryz.func70,Tryz.ntmps70;go_wp2_with(first|(go_at_call 48;refine(z4y _).mono ?_;rintro e w1 ⟨rfl,rfl⟩)|fail);go_ret;exact⟨rfl,rfl⟩
theorem zEx(a:Value)(t:TypeId)(v:Value)(x:Int)(w:World)(hT:zR 77 #[.iface t v] w (A E x)):Calls tP 70 #[a,.iface t v] w fun e w'=>e=z2c x/\Below w.heap.size w w':=by
 go_enter Tryz.func70,Tryz.ntmps70;go_wp2_with(first|(go_at_call 48;refine(z4z t v x _ hT).mono ?_;rintro e w1 ⟨rfl,hb1⟩)|fail);exact⟨rfl,rfl,hb1⟩
theorem zS5(cs:Array Value)(hs:cs.size=2)(h1:cs.all (·.oneCell')=true)(w:World):zR 46 #[.agg cs,.nilIface] w (.agg cs):=by
 have hb:Below w.heap.size w ((w.alloc (cT cs 84)).alloc (cT #[A E 0,A E 0] 84)):=((bF _ _).alloc (Nat.le_refl _) _).alloc kS _;have hn:=(heap_alloc_old (w.alloc (cT cs 84)) (cT #[A E 0,A E 0] 84) kS).trans (heap_alloc_new w (cT cs 84));have hn2:=heap_alloc2_new w (cT cs 84) (cT #[A E 0,A E 0] 84);go_enter Tryz.func46,Tryz.ntmps46;go_upto_region 2 with(first|(go_at_call 48;refine(z4y _).mono ?_;rintro e w1 ⟨rfl,rfl⟩)|fail)
 show Code.wp _ _ _ _ ((w.alloc (cT cs 84)).alloc (cT #[A E 0,A E 0] 84));generalize (w.alloc (cT cs 84)).alloc (cT #[A E 0,A E 0] 84)=w0 at hb hn hn2⊢;go_step;refine wpList_load_row rfl 84 (.tmp 2) rfl w.heap.size rfl 84 cs (0,0) _ hn Tryz.underlying84 rfl (by rw[Tryz.infoBd,hs]) ?_;simp only[pS];refine wpList_store_row rfl 84 (.tmp 4) (.tmp 7) rfl (w.heap.size+1) cs rfl rfl 84 #[A E 0,A E 0] hn2 (by rw[Tryz.infoBd,hs]) (by rw[hs];rfl) h1 ?_;simp only[pS];have hg:=setRow_heap _ _ #[A E 0,A E 0] cs _ _ hn2;have hb2:=z25 hb (show w.heap.size<=w.heap.size+1 by omega) cs;generalize w0.setRow (w.heap.size+1) cs=w1 at hg hb2⊢;go_wp2_with fail;have hl:=run_loadVar_row (P:=tP) w1 (w.heap.size+1) 84 84 cs (0,0) _ hg Tryz.underlying84 rfl (by rw[Tryz.infoBd,hs]);exact bodyPost_ret (v:= .agg cs) (by simp[results,Tryz.results46,asAddr,hl]) rfl ⟨rfl,hb2⟩
theorem zF0(cs:Array Value)(t0:TypeId)(v:Value)(x:Int)(w:World)(hT: ∀W,Below w.heap.size w W->zR 77 #[.iface t0 v] W (A E x)):Calls tP 46 #[.agg cs,.iface t0 v] w fun e w'=>e=z2c x/\Below w.heap.size w w':=by
 go_enter Tryz.func46,Tryz.ntmps46;go_wp2_with(first|(go_at_call 48;refine(z4z t0 v x _ ?_).mono ?_;(exact hT _ kB);rintro e w1 ⟨rfl,hb1⟩)|fail);refine⟨rfl,rfl,?_⟩;refine Below.trans ?_ (hb1.mono (by simp;try omega))
 repeat' first|exact bF _ _|refine bA ?_ kS _
theorem zS2(cs:Array Value)(hs:cs.size=16)(h1:cs.all (·.oneCell')=true)(w:World):zR 42 #[.agg cs,.nilIface] w (.agg cs):=by
 have hb:Below w.heap.size w ((w.alloc (cT cs 77)).alloc (cT zero16 77)):=((bF _ _).alloc (Nat.le_refl _) _).alloc kS _;have hn:=(heap_alloc_old (w.alloc (cT cs 77)) (cT zero16 77) kS).trans (heap_alloc_new w (cT cs 77));have hn2:=heap_alloc2_new w (cT cs 77) (cT zero16 77);go_enter Tryz.func42,Tryz.ntmps42;go_upto_region 2 with(first|(go_at_call 48;refine(z4y _).mono ?_;rintro e w1 ⟨rfl,rfl⟩)|fail)
 show Code.wp _ _ _ _ ((w.alloc (cT cs 77)).alloc (cT zero16 77));generalize (w.alloc (cT cs 77)).alloc (cT zero16 77)=w0 at hb hn hn2⊢;go_step;refine wpList_load_row rfl 77 (.tmp 2) rfl w.heap.size rfl 77 cs (0,0) _ hn Tryz.underlying77 rfl (by rw[Tryz.info55,hs]) ?_;simp only[pS];refine wpList_store_row rfl 77 (.tmp 4) (.tmp 7) rfl (w.heap.size+1) cs rfl rfl 77 zero16 hn2 (by rw[Tryz.info55,hs]) (by rw[hs];rfl) h1 ?_;simp only[pS];have hg:=setRow_heap _ _ zero16 cs _ _ hn2;have hb2:=z25 hb (show w.heap.size<=w.heap.size+1 by omega) cs;generalize w0.setRow (w.heap.size+1) cs=w1 at hg hb2⊢;go_wp2_with fail;have hl:=run_loadVar_row (P:=tP) w1 (w.heap.size+1) 77 77 cs (0,0) _ hg Tryz.underlying77 rfl (by rw[Tryz.info55,hs]);exact bodyPost_ret (v:= .agg cs) (by simp[results,Tryz.results42,asAddr,hl]) rfl ⟨rfl,hb2⟩
theorem zEv(cs:Array Value)(t0:TypeId)(v:Value)(x:Int)(w:World)(hT: ∀W,Below w.heap.size w W->zR 77 #[.iface t0 v] W (A E x)):Calls tP 42 #[.agg cs,.iface t0 v] w fun e w'=>e=z2c x/\Below w.heap.size w w':=by
 go_enter Tryz.func42,Tryz.ntmps42;go_wp2_with(first|(go_at_call 48;refine(z4z t0 v x _ ?_).mono ?_;(exact hT _ kB);rintro e w1 ⟨rfl,hb1⟩)|fail);refine⟨rfl,rfl,?_⟩;refine Below.trans ?_ (hb1.mono (by simp;try omega))
 repeat' first|exact bF _ _|refine bA ?_ kS _
theorem zCa(cs:Array Value)(hs:cs.size=19)(h1:cs.all (·.oneCell')=true)(w:World):zR 56 #[.agg cs,.nilIface] w (.agg cs):=by
 have hb:Below w.heap.size w ((w.alloc (cT cs 104)).alloc (cT z0e 104)):=((bF _ _).alloc (Nat.le_refl _) _).alloc kS _;have hn:=(heap_alloc_old (w.alloc (cT cs 104)) (cT z0e 104) kS).trans (heap_alloc_new w (cT cs 104));have hn2:=heap_alloc2_new w (cT cs 104) (cT z0e 104);go_enter Tryz.func56,Tryz.ntmps56;go_upto_region 2 with(first|(go_at_call 48;refine(z4y _).mono ?_;rintro e w1 ⟨rfl,rfl⟩)|fail)
 show Code.wp _ _ _ _ ((w.alloc (cT cs 104)).alloc (cT z0e 104));generalize (w.alloc (cT cs 104)).alloc (cT z0e 104)=w0 at hb hn hn2⊢;go_step;refine wpList_load_row rfl 104 (.tmp 2) rfl w.heap.size rfl 104 cs (0,0) _ hn Tryz.underlying104 rfl (by rw[Tryz.infoRan,hs]) ?_;simp only[pS];refine wpList_store_row rfl 104 (.tmp 4) (.tmp 7) rfl (w.heap.size+1) cs rfl rfl 104 z0e hn2 (by rw[Tryz.infoRan,hs]) (by rw[hs];rfl) h1 ?_;simp only[pS];have hg:=setRow_heap _ _ z0e cs _ _ hn2;have hb2:=z25 hb (show w.heap.size<=w.heap.size+1 by omega) cs;generalize w0.setRow (w.heap.size+1) cs=w1 at hg hb2⊢;go_wp2_with fail;have hl:=run_loadVar_row (P:=tP) w1 (w.heap.size+1) 104 104 cs (0,0) _ hg Tryz.underlying104 rfl (by rw[Tryz.infoRan,hs]);exact bodyPost_ret (v:= .agg cs) (by simp[results,Tryz.results56,asAddr,hl]) rfl ⟨rfl,hb2⟩
theorem zJx(cs:Array Value)(t0:TypeId)(v:Value)(x:Int)(w:World)(hT: ∀W,Below w.heap.size w W->zR 77 #[.iface t0 v] W (A E x)):Calls tP 56 #[.agg cs,.iface t0 v] w fun e w'=>e=z2c x/\Below w.heap.size w w':=by
 go_enter Tryz.func56,Tryz.ntmps56;go_wp2_with(first|(go_at_call 48;refine(z4z t0 v x _ ?_).mono ?_;(exact hT _ kB);rintro e w1 ⟨rfl,hb1⟩)|fail);refine⟨rfl,rfl,?_⟩;refine Below.trans ?_ (hb1.mono (by simp;try omega))
 repeat' first|exact bF _ _|refine bA ?_ kS _
def errB:ByteArray:=⟨#[101,114,114,111,114,32]⟩
theorem zSm(e:Int)(w:World)(h0: -9223372036854775808<=e)(h1:e<=9223372036854775807)(hT:Tabs ex w):Calls tP 6 #[A E e] w fun r w'=>r= rT (.string (errB++numB e))/\Below w.heap.size w w':=by
 have hs: ¬9223372036854775807<6+(numB e).size:=by have:=z6n e h0 h1;omega
 go_enter Tryz.func6,Tryz.ntmps6;go_wp2_with(first|(go_at_call 13;refine(zQf e _ h0 h1 hT).mono ?_;rintro e w1 ⟨rfl,hb1⟩)|fail);go_ret;exact⟨rfl,hb1⟩
end
section
open Go.ChangeShapes Go.WideShapes Go.ChangeAt Go.RowKit
attribute [local simp] z05 z0a z06
variable {ex:Ext}
theorem zC0(b:ByteArray)(v:Int)(w:World)(hb:b.size<=100000)(hT:Tabs ex w)(hno:z2y b=some v):zR 62 #[.string b] w (A E v):=by
 have hF:=Fine.start hT
 obtain⟨h,hbv⟩:Lib.parseIntB 64 b.data.toList= .ok v/\numB v=b:=by
  unfold z2y at hno;split at hno
  ·rename_i x e
   split at hno
   ·rename_i h2
    have:=Option.some.inj hno;subst this;exact⟨e,by simpa using h2⟩
   ·cases hno
  ·cases hno
 have hv:=Lib.parseIntB_bounds (B:=64) h;have v1: -9223372036854775808<=v:=by have:=hv.1;simp at this;omega
 have v2:v<=9223372036854775807:=by have:=hv.2;simp at this;omega
 have HP:Hid (Lib.parseIntB 64 b.data.toList= .ok v):=h;clear h hv hno;subst hbv;go_enter Tryz.func62,Tryz.ntmps62
 go_wp2_with(first
  |(go_at_call 99;refine(zCg HP.out _ hb).mono ?_;rintro e w1 ⟨rfl,hb1⟩)
  |(go_at_call 66;refine(zEh _ _ v1 v2 (hF.call hb1).tabs).mono ?_;rintro e w2 ⟨rfl,hb2⟩)
  |fail)
 go_ret;exact⟨rfl,((hF.call hb1).call hb2).bel⟩
theorem zM3(he: ∀w,ex.holds w->z17 w)(b:ByteArray)(w:World)(hb:b.size<=100000)(hT:Tabs ex w)(hno:z2y b=none):Calls tP 62 #[.string b] w fun e w'=>e=z2c 3/\Below w.heap.size w w':=by
 have hF:=Fine.start hT
 by_cases hok: ∃v,Lib.parseIntB 64 b.data.toList= .ok v
 ·obtain⟨v,h⟩:=hok
  have hv:=Lib.parseIntB_bounds (B:=64) h;have v1: -9223372036854775808<=v:=by have:=hv.1;simp at this;omega
  have v2:v<=9223372036854775807:=by have:=hv.2;simp at this;omega
  have hbv:numB v≠b:=fun e=>by
   unfold z2y at hno;rw[h]at hno;simp[e]at hno
  have HP:Hid (Lib.parseIntB 64 b.data.toList= .ok v):=h;have hq:=z6m hbv;clear h hv hno hbv;go_enter Tryz.func62,Tryz.ntmps62;go_wp2_with(first
  |(go_at_call 99;refine(zCg HP.out _ hb).mono ?_;rintro e w1 ⟨rfl,hb1⟩)
  |(go_at_call 66;refine(zEh _ _ v1 v2 (hF.call hb1).tabs).mono ?_;rintro e w2 ⟨rfl,hb2⟩)
  |fail)
  exact⟨rfl,rfl,((hF.call hb1).call hb2).bel⟩
 have hn: ∀v,Lib.parseIntB 64 b.data.toList≠ .ok v:=fun v e=>hok ⟨v,e⟩;clear hok hno;go_enter Tryz.func62,Tryz.ntmps62;go_wp2_with(first|(go_at_call 99;refine(zQ8 he hn _ hb hT).mono ?_;rintro e w1 ⟨⟨v,t,p,rfl⟩,hb1⟩)|fail);exact⟨rfl,rfl,hb1⟩
end
section
open Go.ChangeShapes Go.WideShapes Go.ChangeAt Go.RowKit
attribute [local simp] z05 z0a z06
variable {ex:Ext}
def z35:ByteArray:=⟨#[32]⟩
def rowB(xs:List Int):ByteArray:=z5b (xs.map numB) z35
def z19(w:World)(a:Option Addr)(xs:List Int):Prop:=xs.length=0\/ ∃bk off,a=some ⟨bk,off,none⟩/\bk<w.heap.size/\ ∀i,i<xs.length->w.cell? ⟨bk,off+i,none⟩=some (A E (xs.getD i 0))
theorem zKn{xs:List Int}{j:Nat}(h:j<xs.length):((xs.take (j+1)).map numB).map Value.string=((xs.take j).map numB).map Value.string++[.string (numB (xs.getD j 0))]:=by
 rw[List.take_add_one,List.getElem?_eq_getElem h,List.map_append,List.map_append,List.getD_eq_getElem?_getD,List.getElem?_eq_getElem h];rfl
theorem Tryz.infoStr:(Tryz.prog.info? 9).map (fun i=>(i.zero,i.size,i.bytes))=some (some (.string ⟨#[]⟩),1,16):=kR
theorem zNg(a:Option Addr)(cap:Nat)(xs:List Int)(w:World)(HX:Hid (z19 w a xs))(H64:Hid (∀i,i<xs.length->In64 (xs.getD i 0)))(hl:xs.length<=1000)(hT:Tabs ex w):zR 38 #[.slice a xs.length cap] w (.string (rowB xs)):=by
 have HF:Hid (Fine ex w w):=Fine.start hT;have HS:Hid (w.ownsRow w.heap.size 9 1 (.slice none 0 0) 0 (((xs.take 0).map numB).map Value.string)/\Fine ex w w):=⟨World.ownsRow_nil _ _ _ _,HF.out⟩;go_enter Tryz.func38,Tryz.ntmps38;go_wp2_with fail;go_loopw [3,8] (fun v jv wr=> ∃j:Nat,jv=A E j/\j<=xs.length/\Hid (wr.ownsRow w.heap.size 9 1 v j (((xs.take j).map numB).map Value.string)/\Fine ex w wr)) (fun _ jv _=>xs.length-(intOf jv).toNat)
 case atStart=>exact⟨0,rfl,Nat.zero_le _,HS.out⟩
 case round=>as_aux_lemma=>
  clear HS HF;obtain⟨j,rfl,hjn,HQ⟩:=hrel;have hj0:(0:Int)<=(j:Int):=kO
  by_cases hj:j<xs.length
  ·have hj':(j:Int)<(xs.length:Int):=kO
   obtain⟨bk,off,rfl,hbk,hx⟩: ∃bk off,a=some ⟨bk,off,none⟩/\bk<w.heap.size/\ ∀i,i<xs.length->w.cell? ⟨bk,off+i,none⟩=some (A E (xs.getD i 0)):=by
    rcases HX.out with h|h
    ·omega
    ·exact h
   have c0:=(HQ.out.2.bel.cell (p:=⟨bk,off+j,none⟩) hbk).trans (hx j hj);have h64:=H64.out j hj;have hnx:=zKn hj;obtain⟨x,hxe⟩: ∃x,xs.getD j 0=x:=⟨_,rfl⟩;rw[hxe]at c0 h64 hnx;clear hx hxe;go_upto_region 5 with fail
   go_step
   (refine z00 rfl (u3) wr kG ?_);simp only[pS]
   (refine z00 rfl (A E x) wr kG ?_);simp only[pS]
   refine z0c rfl 66 #[A E x,A E 10] kG (.string (numB x)) (zEh x wr h64.1 h64.2 HQ.out.2.tabs) ?_;intro w6 hb6;simp only[pS];obtain⟨i0,hi0,hz0,hz1,hz2⟩:=info_parts Tryz.infoStr;refine wpList_buildSlice rfl 57 9 1 #[(0,.tmp 14)] rfl #[.string (numB x)] i0 _ Tryz.underlying57 hi0 hz0 (by rw[hz1];omega) (by rw[hz1];omega) (by rw[hz1];kernel_rfl) ?_;simp only[pS];have HQ7:Hid ((w6.alloc (cT #[.string (numB x)] 9)).ownsRow w.heap.size 9 1 u3 j (((xs.take j).map numB).map Value.string)/\Fine ex w (w6.alloc (cT #[.string (numB x)] 9))):=⟨(z59 HQ.out.1 hb6).alloc _,(HQ.out.2.call hb6).alloc _⟩;refine wpList_append_own (w6.alloc (cT #[.string (numB x)] 9)) rfl (.tmp 12) (.tmp 15) 57 rfl w.heap.size 9 i0 _ 1 16 Tryz.underlying57 hi0 hz0 hz1 hz2 rfl kD _ _ _ rfl HQ7.out.1 ⟨w6.heap.size,0,none⟩ 1 1 [.string (numB x)] rfl rfl (z5j w6 #[.string (numB x)] 9) (by intro u hu;rw[List.mem_singleton.1 hu];rfl) (by unfold maxLen;omega) kO HQ7.out.2.bel.size ?_;intro v8 w8 ho8 hg8 _;simp only[pS];have HQ8:Hid (w8.ownsRow w.heap.size 9 1 v8 (j+1) (((xs.take (j+1)).map numB).map Value.string)/\Fine ex w w8):=⟨by rw[hnx];exact ho8,Fine.grown HQ7.out.2 hg8 (z77 HQ7.out.1) hT.room⟩;clear HQ7 HQ ho8 hg8 hnx c0 hb6;go_wp2_with fail;exact⟨⟨j+1,z78 j,by omega,HQ8.out⟩,by show xs.length-((j:Int)+1).toNat<xs.length-(j:Int).toNat;omega⟩
  ·have hj': ¬((j:Int)<(xs.length:Int)):=kO
   have hje:j=xs.length:=kO;subst hje;have ho:=HQ.out.1;have hF:=HQ.out.2;rw[List.take_length]at ho;clear HQ;rcases rowShape ho with⟨rfl,h0⟩|⟨g,cp,rfl⟩
   ·obtain rfl:xs=[]:=List.eq_nil_of_length_eq_zero h0
    go_wp2_with(first|(go_at_call 45;refine(Tryz.strings_Join_none _ _ _ _).mono ?_;rintro e w9 ⟨rfl,rfl⟩)|fail);go_ret;exact⟨rfl,hF.bel⟩
   ·have hz: ∀y∈xs.map numB,y.size<=49998:=fun y hy=>by
     obtain⟨x,hx,rfl⟩:=List.mem_map.1 hy;obtain⟨i,hi,e⟩:=List.getElem_of_mem hx;have h:=H64.out i hi;rw[List.getD_eq_getElem?_getD,List.getElem?_eq_getElem hi]at h;have e':xs[i]=x:=e;have h':In64 x:=by rw[<-e'];exact h
     exact Nat.le_trans (z6n x h'.1 h'.2) kD
    have hJ:=zCl g xs.length cp w.heap.size (xs.map numB) z35 wr ho (by rw[List.length_map];omega) kD hz;go_wp2_with(first|(go_at_call 45;refine hJ.mono ?_;rintro e w9 ⟨rfl,hb9⟩)|fail);go_ret;exact⟨rfl,(hF.call hb9).bel⟩
theorem z9l(a:Option Addr)(cap:Nat)(xs:List Int)(w:World)(HX:Hid (z19 w a xs))(H64:Hid (∀i,i<xs.length->In64 (xs.getD i 0)))(hl:xs.length<=1000)(hT:Tabs ex w):zR 44 #[.slice a xs.length cap] w (.string (rowB xs)):=by
 have HF:Hid (Fine ex w w):=Fine.start hT;have HS:Hid (w.ownsRow w.heap.size 9 1 (.slice none 0 0) 0 (((xs.take 0).map numB).map Value.string)/\Fine ex w w):=⟨World.ownsRow_nil _ _ _ _,HF.out⟩;go_enter Tryz.func44,Tryz.ntmps44;go_wp2_with fail;go_loopw [3,8] (fun v jv wr=> ∃j:Nat,jv=A E j/\j<=xs.length/\Hid (wr.ownsRow w.heap.size 9 1 v j (((xs.take j).map numB).map Value.string)/\Fine ex w wr)) (fun _ jv _=>xs.length-(intOf jv).toNat)
 case atStart=>exact⟨0,rfl,Nat.zero_le _,HS.out⟩
 case round=>as_aux_lemma=>
  clear HS HF;obtain⟨j,rfl,hjn,HQ⟩:=hrel;have hj0:(0:Int)<=(j:Int):=kO
  by_cases hj:j<xs.length
  ·have hj':(j:Int)<(xs.length:Int):=kO
   obtain⟨bk,off,rfl,hbk,hx⟩: ∃bk off,a=some ⟨bk,off,none⟩/\bk<w.heap.size/\ ∀i,i<xs.length->w.cell? ⟨bk,off+i,none⟩=some (A E (xs.getD i 0)):=by
    rcases HX.out with h|h
    ·omega
    ·exact h
   have c0:=(HQ.out.2.bel.cell (p:=⟨bk,off+j,none⟩) hbk).trans (hx j hj);have h64:=H64.out j hj;have hnx:=zKn hj;obtain⟨x,hxe⟩: ∃x,xs.getD j 0=x:=⟨_,rfl⟩;rw[hxe]at c0 h64 hnx;clear hx hxe;go_upto_region 5 with fail
   go_step
   (refine z00 rfl (u3) wr kG ?_);simp only[pS]
   (refine z00 rfl (A E x) wr kG ?_);simp only[pS]
   refine z0c rfl 66 #[A E x,A E 10] kG (.string (numB x)) (zEh x wr h64.1 h64.2 HQ.out.2.tabs) ?_;intro w6 hb6;simp only[pS];obtain⟨i0,hi0,hz0,hz1,hz2⟩:=info_parts Tryz.infoStr;refine wpList_buildSlice rfl 57 9 1 #[(0,.tmp 14)] rfl #[.string (numB x)] i0 _ Tryz.underlying57 hi0 hz0 (by rw[hz1];omega) (by rw[hz1];omega) (by rw[hz1];kernel_rfl) ?_;simp only[pS];have HQ7:Hid ((w6.alloc (cT #[.string (numB x)] 9)).ownsRow w.heap.size 9 1 u3 j (((xs.take j).map numB).map Value.string)/\Fine ex w (w6.alloc (cT #[.string (numB x)] 9))):=⟨(z59 HQ.out.1 hb6).alloc _,(HQ.out.2.call hb6).alloc _⟩;refine wpList_append_own (w6.alloc (cT #[.string (numB x)] 9)) rfl (.tmp 12) (.tmp 15) 57 rfl w.heap.size 9 i0 _ 1 16 Tryz.underlying57 hi0 hz0 hz1 hz2 rfl kD _ _ _ rfl HQ7.out.1 ⟨w6.heap.size,0,none⟩ 1 1 [.string (numB x)] rfl rfl (z5j w6 #[.string (numB x)] 9) (by intro u hu;rw[List.mem_singleton.1 hu];rfl) (by unfold maxLen;omega) kO HQ7.out.2.bel.size ?_;intro v8 w8 ho8 hg8 _;simp only[pS];have HQ8:Hid (w8.ownsRow w.heap.size 9 1 v8 (j+1) (((xs.take (j+1)).map numB).map Value.string)/\Fine ex w w8):=⟨by rw[hnx];exact ho8,Fine.grown HQ7.out.2 hg8 (z77 HQ7.out.1) hT.room⟩;clear HQ7 HQ ho8 hg8 hnx c0 hb6;go_wp2_with fail;exact⟨⟨j+1,z78 j,by omega,HQ8.out⟩,by show xs.length-((j:Int)+1).toNat<xs.length-(j:Int).toNat;omega⟩
  ·have hj': ¬((j:Int)<(xs.length:Int)):=kO
   have hje:j=xs.length:=kO;subst hje;have ho:=HQ.out.1;have hF:=HQ.out.2;rw[List.take_length]at ho;clear HQ;rcases rowShape ho with⟨rfl,h0⟩|⟨g,cp,rfl⟩
   ·obtain rfl:xs=[]:=List.eq_nil_of_length_eq_zero h0
    go_wp2_with(first|(go_at_call 45;refine(Tryz.strings_Join_none _ _ _ _).mono ?_;rintro e w9 ⟨rfl,rfl⟩)|fail);go_ret;exact⟨rfl,hF.bel⟩
   ·have hz: ∀y∈xs.map numB,y.size<=49998:=fun y hy=>by
     obtain⟨x,hx,rfl⟩:=List.mem_map.1 hy;obtain⟨i,hi,e⟩:=List.getElem_of_mem hx;have h:=H64.out i hi;rw[List.getD_eq_getElem?_getD,List.getElem?_eq_getElem hi]at h;have e':xs[i]=x:=e;have h':In64 x:=by rw[<-e'];exact h
     exact Nat.le_trans (z6n x h'.1 h'.2) kD
    have hJ:=zCl g xs.length cp w.heap.size (xs.map numB) z35 wr ho (by rw[List.length_map];omega) kD hz;go_wp2_with(first|(go_at_call 45;refine hJ.mono ?_;rintro e w9 ⟨rfl,hb9⟩)|fail);go_ret;exact⟨rfl,(hF.call hb9).bel⟩
end
section
open Go.ChangeShapes Go.WideShapes Go.ChangeAt Go.RowKit
def q3q(w:World)(a:Option Addr)(len:Nat):Prop:=
 len=0\/ ∃(bk off:Nat)(C D S O N:Nat->Int)(R:Nat->Bool),a=some ⟨bk,off,none⟩/\bk<w.heap.size/\z1v w bk off len C D S R O N/\ ∀i,i<len->Fits (O i)/\Fits (N i)
theorem zY5{n:Int}(h:(Lit.int .i64 n).wf=true):Fits n:=by
 have h':(decide (-9223372036854775808<=n)&&decide (n<=9223372036854775807))=true:=h;simp at h';exact h'
theorem zIe{w:World}{base:Nat}{a:Addr}{n:Nat}{cs:List Value}(h:w.cells? base a n=some cs)(i:Nat)(hi:i<n):w.cell? (a.add i)=cs[i]?:=by
 unfold World.cells? at h;split at h
 ·exact mapM_some_get h i i (by simp[hi])
 ·cases h
theorem six{l:List Value}(h:l.length=6): ∃a b c d e f,l=[a,b,c,d,e,f]:=by
 match l,h with
 |[a,b,c,d,e,f],_=>exact⟨a,b,c,d,e,f,rfl⟩
section
variable {H:Type} {enc:TypeId×Value->H} {w:World}
theorem zVt{n:Nat}{cs:List Value}{x:DataW H×List MemPlace}(h:DataW.trod enc tP w 0 (fun _=>true) true n 135 cs=some x):
  ∃y:Int×Int×Int×Bool×Int×Int,cs=[.int .i64 y.1,.int .i64 y.2.1,.int .i64 y.2.2.1,.bool y.2.2.2.1,.int .i64 y.2.2.2.2.1,.int .i64 y.2.2.2.2.2]/\Fits y.2.2.2.2.1/\Fits y.2.2.2.2.2:=by
 obtain⟨xs,m,_,_,hl,hx,hf⟩:=DataW.trod_struct Tryz.underlying135 h;have hl6:cs.length=6:=by rw[hl];kernel_rfl
 have hx6:xs.length=6:=hx;obtain⟨a,b,c,d,e,f,rfl⟩:=six hl6;have k3:Tryz.prog.cellsOf 3=1:=by kernel_rfl
 have k2:Tryz.prog.cellsOf 2=1:=by kernel_rfl
 have k4:Tryz.prog.cellsOf 4=1:=by kernel_rfl
 have at_: ∀i,i<6-> ∃y,xs[i]?=some y:=fun i hi=>⟨xs[i]'(by omega),List.getElem?_eq_getElem _⟩;obtain⟨y0,e0⟩:=at_ 0 (by decide);obtain⟨y1,e1⟩:=at_ 1 (by decide);obtain⟨y2,e2⟩:=at_ 2 (by decide);obtain⟨y3,e3⟩:=at_ 3 (by decide);obtain⟨y4,e4⟩:=at_ 4 (by decide);obtain⟨y5,e5⟩:=at_ 5 (by decide);have f0:DataW.trod enc tP w 0 (fun _=>true) true m 3 (([a,b,c,d,e,f].drop 0).take (Tryz.prog.cellsOf 3))=some y0:=(hf 0 _ rfl).trans e0;have f1:DataW.trod enc tP w 0 (fun _=>true) true m 3 (([a,b,c,d,e,f].drop 1).take (Tryz.prog.cellsOf 3))=some y1:=(hf 1 _ rfl).trans e1;have f2:DataW.trod enc tP w 0 (fun _=>true) true m 3 (([a,b,c,d,e,f].drop 2).take (Tryz.prog.cellsOf 3))=some y2:=(hf 2 _ rfl).trans e2;have f3:DataW.trod enc tP w 0 (fun _=>true) true m 4 (([a,b,c,d,e,f].drop 3).take (Tryz.prog.cellsOf 4))=some y3:=(hf 3 _ rfl).trans e3;have f4:DataW.trod enc tP w 0 (fun _=>true) true m 3 (([a,b,c,d,e,f].drop 4).take (Tryz.prog.cellsOf 3))=some y4:=(hf 4 _ rfl).trans e4;have f5:DataW.trod enc tP w 0 (fun _=>true) true m 2 (([a,b,c,d,e,f].drop 5).take (Tryz.prog.cellsOf 2))=some y5:=(hf 5 _ rfl).trans e5;rw[k3]at f0 f1 f2 f4;rw[k4]at f3;rw[k2]at f5;obtain⟨n0,g0,_,_⟩:=DataW.trod_int Tryz.underlying3 f0;obtain⟨n1,g1,_,_⟩:=DataW.trod_int Tryz.underlying3 f1;obtain⟨n2,g2,_,_⟩:=DataW.trod_int Tryz.underlying3 f2;obtain⟨n3,g3,_⟩:=DataW.trod_bool Tryz.underlying4 f3;obtain⟨n4,g4,_,b4⟩:=DataW.trod_int Tryz.underlying3 f4;obtain⟨n5,g5,_,b5⟩:=DataW.trod_int Tryz.underlying2 f5;simp at g0 g1 g2 g3 g4 g5;exact⟨(n0,n1,n2,n3,n4,n5),by rw[g0,g1,g2,g3,g4,g5],zY5 b4,zY5 b5⟩
theorem steps_open{a:Option Addr}{len cap:Nat}{d:DataW H}{ps:List MemPlace}(h:DataW.Trod enc tP w 0 (fun _=>true) true 73 (.slice a len cap) d ps):q3q w a len:=by
 obtain⟨fuel,hf⟩:=h;rcases Deep.open_slice Tryz.underlying73 hf with⟨hcs,_⟩|⟨x,l,c,m,n,Da,Pl,hcs,_,hl,hm,hmm,_,hx⟩
 ·simp[Value.cells]at hcs
  exact Or.inl hcs.2.1
 ·simp[Value.cells]at hcs
  obtain⟨rfl,rfl,rfl⟩:=hcs
  by_cases h0:len=0
  ·exact Or.inl h0
  have hc6:Tryz.prog.cellsOf 135=6:=by kernel_rfl
  have all: ∀i,∃y:Int×Int×Int×Bool×Int×Int,i<len->(∀j,j<6->w.cell? ((x.add (i*6)).add j)=[Value.int .i64 y.1,.int .i64 y.2.1,.int .i64 y.2.2.1,.bool y.2.2.2.1,.int .i64 y.2.2.2.2.1,.int .i64 y.2.2.2.2.2][j]?)/\Fits y.2.2.2.2.1/\Fits y.2.2.2.2.2:=by
   intro i
   by_cases hi:i<len
   ·have him:i<m:=by rw[hmm];simp;omega
    obtain⟨cs,hcc,ht⟩:=hx i him;rw[hc6]at hcc;obtain⟨y,hy,hf4,hf5⟩:=zVt ht;refine⟨y,fun _=>⟨fun j hj=>?_,hf4,hf5⟩⟩;rw[<-hy];exact zIe hcc j hj
   ·exact⟨(0,0,0,false,0,0),fun h=>absurd h hi⟩
  obtain⟨f,hf'⟩:=Classical.axiomOfChoice all;obtain⟨b,off,spot⟩:=x;have hc0:=(hf' 0 (by omega)).1 0 (by decide);have hspot:spot=none:=by simpa[Addr.add]using World.cell?_spot hc0
  subst hspot
  have hb:b<w.heap.size:=by
   rcases Nat.lt_or_ge b w.heap.size with g|g
   ·exact g
   ·simp[World.cell?,Addr.add,Array.getElem?_eq_none g]at hc0
  refine Or.inr ⟨b,off,fun i=>(f i).1,fun i=>(f i).2.1,fun i=>(f i).2.2.1,fun i=>(f i).2.2.2.2.1,fun i=>(f i).2.2.2.2.2,fun i=>(f i).2.2.2.1,rfl,hb,fun i hi=>?_,fun i hi=>(hf' i hi).2⟩
  have g: ∀j,j<6->w.cell? ⟨b,off+i*6+j,none⟩=[Value.int .i64 (f i).1,.int .i64 (f i).2.1,.int .i64 (f i).2.2.1,.bool (f i).2.2.2.1,.int .i64 (f i).2.2.2.2.1,.int .i64 (f i).2.2.2.2.2][j]?:=fun j hj=>by
   rw[<-Go.WideShapes.add_plain, <-Go.WideShapes.add_plain];exact(hf' i hi).1 j hj
  exact⟨g 0 (by decide),g 1 (by decide),g 2 (by decide),g 3 (by decide),g 4 (by decide),g 5 (by decide)⟩
end
end
end Go.Proofs.YtkdflpplamebkaaGreatDoor
