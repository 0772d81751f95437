/-
A part of the proof of HookPlays; its card says what is proved.
-/
import Derived.WalkKit
import Derived.Deep.Draws
import Derived.Test.YtabjjgkmegcacaaGreatDoorProg
set_option maxHeartbeats 40000000
set_option maxRecDepth 1000000
set_option linter.defProp false
set_option linter.unusedVariables false
set_option linter.unusedSimpArgs false
open Go.Ending renaming returned → rT
open Go.Proofs.Tryz renaming prog → tP
namespace Go.Proofs.YtabjjgkmegcacaaGreatDoor
theorem siA{α:Type}(l:List α)(i:Nat)(a:α):l.toArray.setIfInBounds i a=(l.set i a).toArray:=List.setIfInBounds_toArray l i a
theorem scZ{α:Type}(x:α)(l:List α)(a:α):(x::l).set 0 a=a::l:=List.set_cons_zero
theorem scS{α:Type}(x:α)(l:List α)(n:Nat)(a:α):(x::l).set (n+1) a=x::l.set n a:=List.set_cons_succ
theorem mcO{α:Type}{a:α}(b:α){l:List α}(h:a∈l):a∈b::l:=List.mem_cons_of_mem b h
theorem mcS{α:Type}{a:α}{l:List α}:a∈a::l:=List.mem_cons_self
section
open Go.RowKit
theorem kO{P:Prop}(h:P:=by omega):P:=h
theorem kR{P:Prop}(h:P:=by kernel_rfl):P:=h
theorem kD{P:Prop}(h:P:=by decide):P:=h
theorem kS{P:Prop}(h:P:=by simp):P:=h
theorem kG{P:Prop}(h:P:=by go_simp;try rfl):P:=h
theorem kZ{P:Prop}(h:P:=by simp;omega):P:=h
theorem kI{P:Prop}(h:P:=by rfl):P:=h
abbrev zR(f:FuncId)(args:Array Value)(w:World)(v:Value):Prop:=Calls tP f args w fun e w'=>e= rT v/\Below w.heap.size w w'
abbrev zS(f:FuncId)(args:Array Value)(w:World)(v:Value):Prop:=Calls tP f args w fun e w'=>e= rT v/\w'=w
theorem z0p(w:World):w.drew.heap.size=w.heap.size:=rfl
theorem z0j(w:World)(k:Nat):(w.drewN k).heap.size=w.heap.size:=rfl
theorem z04(w:World)(a:Addr)(v:Value):(w.setCell a v).heap.size=w.heap.size:=by simp[World.setCell]
theorem z1b{W w1:World}(hb:Below W.heap.size W w1):(∀b o,b<W.heap.size->w1.cell? ⟨b,o,none⟩=W.cell? ⟨b,o,none⟩)/\(∀b o,b<W.heap.size->w1.frozen? ⟨b,o,none⟩=W.frozen? ⟨b,o,none⟩):=
 ⟨fun b o h=>hb.cell (p:=⟨b,o,none⟩) h,fun b o h=>hb.frozen (p:=⟨b,o,none⟩) h⟩
theorem dwS(w:World):w.drew.heap.size=w.heap.size:=rfl
theorem kB{n:Nat}{a w:World}(h:Below n a w:=by repeat' first|with_reducible assumption|with_reducible(first|exact Below.refl _ _|refine Below.alloc ?_ ?_ _|refine Below.setCell ?_ ?_ _|refine Below.drew ?_|refine below_drewN ?_ _)|((try dsimp only);omega)|(simp[dwS];done)|(simp[dwS];omega)|omega|exact Below.refl _ _|refine Below.alloc ?_ ?_ _|refine Below.setCell ?_ ?_ _|refine Below.drew ?_):Below n a w:=h
theorem kT{n m:Nat}{a b c:World}(hb:Below m b c)(h:Below n a b:=by repeat' first|with_reducible assumption|with_reducible(first|exact Below.refl _ _|refine Below.alloc ?_ ?_ _|refine Below.setCell ?_ ?_ _|refine Below.drew ?_|refine below_drewN ?_ _)|((try dsimp only);omega)|(simp[dwS];done)|(simp[dwS];omega)|omega|exact Below.refl _ _|refine Below.alloc ?_ ?_ _|refine Below.setCell ?_ ?_ _|refine Below.drew ?_)(h2:n<=m:=by first|((try dsimp only);omega)|(simp[dwS];done)|(simp[dwS];omega)):Below n a c:=h.trans (hb.mono h2)
theorem pS:(∀(a:Act)(d:Tmp)(v:Value),a.put (some d) v={a with tmps:=a.tmps.setIfInBounds d v})/\(∀(a:Act)(v:Value),a.put none v=a)/\(∀(α:Type)(l:List α)(i:Nat)(a:α),l.toArray.setIfInBounds i a=(l.set i a).toArray)/\(∀(α:Type)(x:α)(l:List α)(a:α),(x::l).set 0 a=a::l)/\ ∀(α:Type)(x:α)(l:List α)(n:Nat)(a:α),(x::l).set (n+1) a=x::l.set n a:=
 ⟨fun _ _ _=>rfl,fun _ _=>rfl,fun _ l i a=>List.setIfInBounds_toArray l i a,fun _ _ _ _=>List.set_cons_zero,fun _ _ _ _ _=>List.set_cons_succ⟩
end
end Go.Proofs.YtabjjgkmegcacaaGreatDoor
