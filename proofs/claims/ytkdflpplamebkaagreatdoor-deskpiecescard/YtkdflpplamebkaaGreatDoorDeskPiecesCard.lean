/-
 DeskPieces returns true at every two texts, and changes nothing that was there: the answers to the first lines of a session are the beginning of the answers to all. Conditions: the library's variable errors.errorType, the tables of names, the library's tables and its two errors for numbers z6y as the program's text lays them.
-/
import Derived.Test.YtkdflpplamebkaaGreatDoorJp45
import Derived.Test.YtkdflpplamebkaaGreatDoorTie
import Derived.Test.YtkdflpplamebkaaGreatDoorCards
import Derived.Deep.Slices
import Derived.ChangeSame
import Derived.ChangeVars
import Derived.ChangeOld
import Derived.JoinedOf
import Derived.LaidLaws
import Derived.LaidHandle
import Derived.Stop.Joined
import Derived.SevenTiedAt
import Derived.Deep.DeepLaidRun
import Derived.Stop.LaidErr
import Derived.Lib.LaidU8T
import Derived.Lib.SmallJoins
import Derived.SizedLaws
import Derived.Test.YtkdflpplamebkaaGreatDoorJp0
set_option maxHeartbeats 40000000
set_option maxRecDepth 1000000
set_option linter.defProp false
set_option linter.unusedVariables false
set_option linter.unusedSimpArgs false
namespace Go.Proofs.YtkdflpplamebkaaGreatDoor
open Go.ChangeShapes Go.WideShapes Go.ChangeAt Go.RowKit
open Go.Joins
open Go.ChangeMaps (open_string shut_string)
set_option linter.unusedVariables false
theorem z17.on{w w':World}{B:Nat}(h:z17 w)(hb:Below B w w')(hB:11≤B):z17 w':=by
 obtain⟨⟨t,p,h1⟩,⟨t',p',h2⟩⟩:=h
 refine⟨⟨t,p,?_⟩,⟨t',p',?_⟩⟩
 ·rw[hb.cell (p:=⟨6,0,none⟩) (by show 6<B;omega)];exact h1
 ·rw[hb.cell (p:=⟨7,0,none⟩) (by show 7<B;omega)];exact h2
def deskExt:Ext where
 holds w:=z17 w∧Lib.Utf8Tabs 2 3 w
 on w w' B hb hB h:=by
  refine⟨h.1.on hb hB,fun c hc=>?_,fun i hi=>⟨?_,?_⟩⟩
  ·rw[hb.cell (p:=⟨2,c,none⟩) (by show 2<B;omega)];exact h.2.1 c hc
  ·rw[hb.cell (p:=⟨3,2*i,none⟩) (by show 3<B;omega)];exact(h.2.2 i hi).1
  ·rw[hb.cell (p:=⟨3,2*i+1,none⟩) (by show 3<B;omega)];exact(h.2.2 i hi).2
theorem own:ownKnob Tryz.prog.godebug=none:=by kernel_rfl
theorem laidOut:laidOutB Tryz.prog=true:=by kernel_rfl
theorem var_lt{P:Program}{w:World}{n:String}{g:Nat}{cs:Array Value}(hg:P.globalNamed n=some g)(h:w.var? P n=some cs):g<w.heap.size:=by
 rcases Nat.lt_or_ge g w.heap.size with k|k
 ·exact k
 ·simp[World.var?,hg,Array.getElem?_eq_none k]at h
theorem star: "*" ++ "errors.errorString" = "*errors.errorString" :=by decide
theorem rowE(u:TypeId)(h:Tryz.prog.typeName? 3 u=some "*errors.errorString"):u=308:=
 typeName_ptr_named (nm:= "errors.errorString") (by rw[star];kernel_rfl) (by kernel_rfl) (by decide) u (by rw[star];exact h)
theorem firstsAre:Rows.laid_unicode_utf8_first=Lib.firstData:=by kernel_rfl
theorem rangesAre:(Rows.laid_unicode_utf8_acceptRanges:DataW Unit)=Lib.acceptData:=by kernel_rfl
theorem err_cell{n:String}{g:Nat}{text:List UInt8}{r:List (String×DataW Unit)}{W:World}(h:laidMet Tryz.prog ((n,.iface "*errors.errorString" (.ptr (.agg [.lit (.string text)])))::r) W)
  (hg:Tryz.prog.globalNamed n=some g)(ht:(Tryz.prog.globals[g]?).map (·.type)=some 29): ∃te pe,W.cell? ⟨g,0,none⟩=some (.iface te pe):=by
 obtain⟨a,s,hv,_⟩:=laid_sentinel h hg ht Tryz.underlying29 rowE Tryz.underlying308 Tryz.underlying310 rfl rfl Tryz.underlying9 (by kernel_rfl) (by kernel_rfl)
 exact⟨_,_,(World.var?_cell hg hv 0).trans rfl⟩
theorem laid_tabs{W:World}(h:laidMetH Tryz.prog Rows.deskPiecesRow.laid W):Tabs deskExt W∧z0p W:=by
 have h':laidMet Tryz.prog [("math/bits.deBruijn32tab",Rows.laid_math_bits_deBruijn32tab),("math/bits.deBruijn64tab",Rows.laid_math_bits_deBruijn64tab),("internal/strconv.uint64pow10",Rows.laid_internal_strconv_uint64pow10),("unicode/utf8.acceptRanges",Rows.laid_unicode_utf8_acceptRanges),("strconv.ErrRange",Rows.laid_strconv_ErrRange),("strconv.ErrSyntax",Rows.laid_strconv_ErrSyntax),("gatehouse/asm.names",Rows.laid_gatehouse_asm_names),("gatehouse/asm.calls",Rows.laid_gatehouse_asm_calls),("unicode/utf8.first",Rows.laid_unicode_utf8_first)] W∧handlesMet Tryz.prog [("errors.errorType",Rows.laid_errors_errorType)] W:=h
 obtain⟨h',hh⟩:=h'
 refine⟨zJv h' (by simp) (by simp) (by simp) ?_ ⟨⟨err_cell (g:=6) h'.tail.tail.tail.tail.tail (by kernel_rfl) (by kernel_rfl),err_cell (g:=7) h'.tail.tail.tail.tail (by kernel_rfl) (by kernel_rfl)⟩,?_⟩,zTu hh⟩
 ·obtain⟨ps,hl,_⟩:=h'
  obtain⟨g,t,cs,fuel,p,h1,h2,h3,h4⟩:=z9w hl ("gatehouse/asm.calls",Rows.laid_gatehouse_asm_calls) (by simp)
  have hg:Tryz.prog.globalNamed "gatehouse/asm.calls" =some 10:=by kernel_rfl
  have:=var_lt hg h3
  omega
 ·exact utf8Tabs_of_readsT (ρ:=Tryz.lays197_ren) {Tryz.lays197 with} ⟨by kernel_rfl,by kernel_rfl,by kernel_rfl,by kernel_rfl,by kernel_rfl,by kernel_rfl,by kernel_rfl⟩ (firstsAre▸Lib.laidMet.reads h' (by simp)) (rangesAre▸Lib.laidMet.reads h' (by simp))
def cellOf:DataW Unit→Value
 | .lit (.int k z)=> .int k z
 | .lit (.string b)=> .string ⟨b.toArray⟩
 |_=> .int .i64 0
def flatOf:DataW Unit→List Value
 | .agg l=>l.map cellOf
 |d=>[cellOf d]
def cellsOfD:DataW Unit→Array Value
 | .agg l=>(l.flatMap flatOf).toArray
 |_=>#[]
def laidHeap(h:Array Obj):Array Obj:=
 let put (g:Nat) (cs:Array Value) (h:Array Obj):Array Obj:=h.modify g fun
  | .cells _ t frozen=> .cells cs t frozen
  |o=>o
 ((put 1 #[.iface 271 (.agg #[.pointer (some ⟨11,29,none⟩)])] (put 7 #[.iface 308 (.pointer (some ⟨h.size,0,none⟩))] (put 6 #[.iface 308 (.pointer (some ⟨h.size+1,0,none⟩))] (put 8 (cellsOfD Rows.laid_math_bits_deBruijn32tab) (put 9 (cellsOfD Rows.laid_math_bits_deBruijn64tab)
  (put 0 (cellsOfD Rows.laid_internal_strconv_uint64pow10) (put 5 (cellsOfD Rows.laid_gatehouse_asm_names) (put 10 (cellsOfD Rows.laid_gatehouse_asm_calls)
  (put 2 (cellsOfD Rows.laid_unicode_utf8_first) (put 3 (cellsOfD Rows.laid_unicode_utf8_acceptRanges) h)))))))))).push (.cells #[.string ⟨#[118,97,108,117,101,32,111,117,116,32,111,102,32,114,97,110,103,101]⟩] 310)).push (.cells #[.string ⟨#[105,110,118,97,108,105,100,32,115,121,110,116,97,120]⟩] 310)
def laidW(w:World):World:={w with heap:=laidHeap w.heap}
theorem start_met(os:Os)(args:Array Value):laidMetH Tryz.prog Rows.deskPiecesRow.laid ((laidW (World.holding Tryz.prog os ⟨#[], #[],[]⟩)).forCall (fun _ _=>0) ⟨#[],args,[]⟩).memory:=
 laidMetH_of_parts (laidMet_of_run3 8 (by kernel_rfl) (by kernel_rfl) (by kernel_rfl)) (by kernel_rfl)

set_option maxRecDepth 100000 in
theorem lifted(os:Os)(started:os.Started)(H:Type)(enc:TypeId×Value→H):
  ReturnsInHanded {} Tryz.checked os 3 .any (fun w args=>(Rows.deskPiecesSpec.pre enc Tryz.prog Tryz.f3 [] false w args∧laidMetH Tryz.prog Rows.deskPiecesRow.laid w)∧sizedMet enc Tryz.prog Tryz.f3 (OpenSpec.ofChange Rows.deskPiecesSpec) false w args)
   (Rows.deskPiecesSpec.post enc Tryz.prog Tryz.f3 false true false false):=by
 refine returnsInHanded_of_change_and (C:=Tryz.checked) (X:=fun w _=>laidMetH Tryz.prog Rows.deskPiecesRow.laid w) (fun _ _ _ hh h=>h.of_heap hh) own started (by kernel_rfl) Tryz.func3
  (ChangeSpec.witness_at (enc:=enc) (C:=Tryz.checked) (os:=os) (X:=fun w _=>laidMetH Tryz.prog Rows.deskPiecesRow.laid w) false (laidW (World.holding Tryz.prog os ⟨#[], #[],[]⟩)) #[.string ⟨#[]⟩,.string ⟨#[]⟩] 8 rfl (by kernel_rfl) (by kernel_rfl) (by kernel_rfl) (by kernel_rfl) (by kernel_rfl) (start_met os _)) ?_
 intro W base args ds gs before hval0 hW _ hwt hL _
 have hval: ∀(j:Nat) t v,Tryz.f3.params[j]?=some t→args[j]?=some v→Value.okWide Tryz.prog W .any base t v:=hval0
 have hW':=hW
 obtain⟨p,q,hA0,hV0,rfl,hfz,hnd⟩:=hW
 have hA:DataW.TrodAll enc Tryz.prog W 0 (fun _=>true) true Tryz.f3.params.toList args.toList ds p:=hA0
 have hV:DataW.TrodVars enc Tryz.prog W (fun _=>true) [] gs q:=hV0
 rw[Tryz.params3]at hA hval hwt
 obtain⟨v0,vs0,d0,ds0,p0,q0,hargs,rfl,rfl,h0,r0⟩:=trodAll_cons hA
 obtain⟨v1,vs1,d1,ds1,p1,q1,rfl,rfl,rfl,h1,r1⟩:=trodAll_cons r0
 obtain⟨rfl,rfl,rfl⟩:=trodAll_nil r1
 obtain rfl:args=#[v0,v1]:=by cases args;simp_all
 obtain⟨rfl,rfl⟩:=trodVars_none hV
 obtain⟨s,rfl,rfl,rfl,ws⟩:=open_string Tryz.underlying9 (hval 0 9 v0 rfl rfl) h0
 obtain⟨t,rfl,rfl,rfl,wt⟩:=open_string Tryz.underlying9 (hval 1 9 v1 rfl rfl) h1
 have z0:=sized_string hwt (j:=0) rfl rfl
 have z1:=sized_string hwt (j:=1) rfl rfl
 rw[←Lib.size_eq]at z0 z1
 unfold reachBytes at z0 z1
 obtain⟨hT0,hg⟩:=laid_tabs hL
 refine(zSp (ex:=deskExt) (fun _ h=>h.1) (fun _ h=>h.2) s t W (by omega) (by omega) hT0 hg).mono fun e W' ⟨he,bel⟩=>?_
 subst he
 exact⟨_,rfl,_,_,_,[],_,[],hW',trodAll_mk1 (shut_bool Tryz.underlying4 _),trodAll_cons_mk (shut_string Tryz.underlying9 ws) (trodAll_cons_mk (shut_string Tryz.underlying9 wt) trodAll_mk0),rfl,bel.frame _,fun h=>by cases h⟩

theorem deskPieces_row:Rows.DeskPiecesSaid:=
 OpenClaim.holds_of_wide 3 Tryz.f3 rfl rfl rfl rfl rfl rfl rfl ⟨rfl,rfl,rfl,rfl,rfl⟩ rfl rfl rfl rfl rfl (by kernel_rfl) Tryz.func3 (by kernel_rfl)
  (of_decide_eq_true (by kernel_rfl)) (by unfold Func.isWrapper;rw[if_neg (of_decide_eq_false (by kernel_rfl))];exact⟨rfl,rfl⟩)
  (fun os started H enc _=>lifted os started H enc)
theorem deskPieces_holds:Rows.DeskPiecesCardSaid:=
 Claim7.holds_tied_plain_at .later [] [.data,.data,.data,.data,.handle,.sentinel,.sentinel,.data,.data,.pinned] true Rows.deskPiecesCard.stood.harness true
  deskPieces_row (fun _ h=>by cases h) (by kernel_rfl) (fun _ h=>by cases h) deskPieces_row_tie rfl ⟨rfl,rfl⟩ (by kernel_rfl) rfl
  (fun f fn hf hfn=>by
   obtain rfl:f=3:=Option.some.inj ((show Tryz.prog.funcNamed "gatehouse/gatehousekeep.DeskPieces" =some 3 by kernel_rfl).symm.trans hf)|>.symm
   obtain rfl:fn=Tryz.f3:=(Option.some.inj (Tryz.func3.symm.trans hfn)).symm
   exact⟨by kernel_rfl,fun j t ht=>by
    rw[Tryz.params3]at ht
    have h3:t=9:=by
     rcases j with _|_|j
     ·simpa using ht.symm
     ·simpa using ht.symm
     ·simp at ht
    subst h3
    exact(show Tryz.prog.wantsStandIn 9=false by kernel_rfl)⟩)
  (by kernel_rfl)
#print axioms deskPieces_holds
end Go.Proofs.YtkdflpplamebkaaGreatDoor
