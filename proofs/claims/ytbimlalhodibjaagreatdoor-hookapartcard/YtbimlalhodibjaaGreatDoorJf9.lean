/-
 How a program goes on from step to step to its end: by the plain machine. Conditions: every step is a right one; numbers are of 64 bits. A program at its first step. Conditions: none. A region that draws its order, walked by hand: one operation at a time, its slot named. No program is named here. No conditions. What package machine's Run answers: by the plain machine. Conditions: the list's cells hold steps; numbers are of 64 bits. A desk of package hook as it lies in memory: three gates, each a chain of programs, events that wait, and three numbers; then how many events went through: 952 cells. What is written in it, cell by cell or a row at a time. No conditions.
-/
import Derived.Test.YtbimlalhodibjaaGreatDoorJf8
import Derived.Test.YtbimlalhodibjaaGreatDoorJf7
import Derived.Deep.RegionHeld3
import Derived.Laws.Tables
import Derived.Laws.Rows
import Derived.BigRegion
import Derived.Deep.MidRow
import Derived.Test.YtbimlalhodibjaaGreatDoorJf4
set_option maxHeartbeats 40000000
open Go.Value renaming int → A
open Go.IntKind renaming i64 → F
open Go.RowKit.Below renaming alloc → bA, setCell → bS, drew → bD, refl → bF
set_option maxRecDepth 1000000
set_option linter.defProp false
set_option linter.unusedVariables false
set_option linter.unusedSimpArgs false
open Go.Ending renaming returned → rT
open Go.Value renaming pointer → pT
open Go.Obj renaming cells → cT
open Go.Proofs.Tryz renaming prog → tP
namespace Go.Proofs.YtbimlalhodibjaaGreatDoor
section
open Go.ChangeShapes Go.WideShapes Go.ChangeAt Go.RowKit
attribute [local simp] z00 z0d z07
def Gone (B : Nat) (w w' : World) (X : End) (E : Int) : Prop :=
 Below B w w' /\ ∃ m' L', z09 w' B m' /\ z1n w' B m'.out L' /\
  match X with
  | .inl (e, p) => E = e /\ E ≠ 0 /\ m'.step = (p : Int)
  | .inr (n, k, a) => E = 0 /\ m'.steps = (k : Int) /\ m'.abs L' = a /\ n = (a.reg 0).n
def zAs (B : Nat) (w : World) : Nat := (intOf ((w.cell? ⟨B, 0, none⟩).getD (A F 0))).toNat
theorem z1l.under {w wr : World} {B bk off len : Nat} {C D S : Nat -> Int} {R : Nat -> Bool} {O N : Nat -> Int} (h : z1l w bk off len C D S R O N) (hb : Below B w wr) (hbk : bk < B) : z1l wr bk off len C D S R O N := by
 intro i hi
 obtain ⟨a, b, c, d, e, f⟩ := h i hi
 exact ⟨(hb.cell (p := ⟨bk, _, none⟩) hbk).trans a, (hb.cell (p := ⟨bk, _, none⟩) hbk).trans b, (hb.cell (p := ⟨bk, _, none⟩) hbk).trans c, (hb.cell (p := ⟨bk, _, none⟩) hbk).trans d, (hb.cell (p := ⟨bk, _, none⟩) hbk).trans e, (hb.cell (p := ⟨bk, _, none⟩) hbk).trans f⟩
theorem z94 {B : Nat} {w : World} {m : Mac} (h : z09 w B m) : zAs B w = m.step.toNat := by unfold zAs; rw [h.step]; rfl
section
variable (B bk off len cap : Nat) (C D S O N : Nat -> Int) (R : Nat -> Bool)
theorem zKu (m : Mac) (L : List Int) (w : World) (hM : z09 w B m) (hO : z1n w B m.out L) (hok : (m.abs L).Ok) (hst : z1l w bk off len C D S R O N) (hbk : bk < B) (hlen : len <= 200) (h1 : 1 <= len) (hR : ∀ k, k < len -> z1j len C D S R O N k = 0) (hN : ∀ k, k < len -> In64 (N k)) (h0 : m.step = 0) (h00 : m.steps = 0) :
  Calls tP 59 #[pT (some ⟨B, 0, none⟩), .slice (some ⟨bk, off, none⟩) len cap] w fun e w' => ∃ E, e = rT (A F E) /\ Gone B w w' (runF C D S R O N len 0 0 (m.abs L)) E := by
 obtain ⟨X, hX⟩ : ∃ X, runF C D S R O N len 0 0 (m.abs L) = X := ⟨_, rfl⟩
 rw [hX]
 have HX : Hid (runF C D S R O N len 0 0 (m.abs L) = X) := hX
 have HST : Hid (z1l w bk off len C D S R O N) := hst
 have HR : Hid (∀ k, k < len -> z1j len C D S R O N k = 0) := hR
 have HN : Hid (∀ k, k < len -> In64 (N k)) := hN
 have HS : Hid (m.step = 0 /\ m.steps = 0) := ⟨h0, h00⟩
 have HO : Hid (z1n w B m.out L) := hO
 clear hX hst hR hN h0 h00 hO
 go_enter Tryz.func59, Tryz.ntmps59
 go_wp2_with fail
 go_loopw [4] (fun _ wr => ∃ (pc k : Nat) (m1 : Mac) (L1 : List Int), Hid (pc < len /\ k <= pc /\ Below B w wr /\ z09 wr B m1 /\ z1n wr B m1.out L1 /\ (m1.abs L1).Ok /\ m1.step = (pc : Int) /\ m1.steps = (k : Int) /\ runF C D S R O N len pc k (m1.abs L1) = X)) (fun _ wr => len - zAs B wr)
 case atStart => exact ⟨0, 0, m, L, by omega, Nat.le_refl _, bF _ _, hM, HO.out, hok, HS.out.1, HS.out.2, HX.out⟩
 case round =>
  obtain ⟨pc, k, m1, L1, H⟩ := hrel
  have hpc := H.out.1
  have hkp := H.out.2.1
  have hb := H.out.2.2.1
  have hM1 := H.out.2.2.2.1
  have hok1 := H.out.2.2.2.2.2.1
  have hB := hM1.lt
  have q0 := hM1.step
  have q1 := hM1.steps
  rw [H.out.2.2.2.2.2.2.1] at q0
  rw [H.out.2.2.2.2.2.2.2.1] at q1
  have f0 := hM1.frozen 0
  have f1 := hM1.frozen 1
  obtain ⟨g0, g1, g2, g3, g4, g5⟩ := HST.out.under hb hbk pc hpc
  have hr := z7g (HR.out pc hpc)
  have hn := HN.out pc hpc
  have HH : Hid (runF C D S R O N len pc k (m1.abs L1) = X) := H.out.2.2.2.2.2.2.2.2
  have HO1 : Hid (z1n wr B m1.out L1) := H.out.2.2.2.2.1
  have e3 : m1.step = (pc : Int) := H.out.2.2.2.2.2.2.1
  have E3 : Hid (m1.step = (pc : Int)) := e3
  clear e3
  have HP : Hid (m1.steps = (k : Int)) := H.out.2.2.2.2.2.2.2.1
  obtain ⟨d, hd⟩ := Int.eq_ofNat_of_zero_le hr.d1
  obtain ⟨s, hs⟩ := Int.eq_ofNat_of_zero_le hr.s1
  have hd11 : d < 11 := by have := hr.d2; omega
  have hs11 : s < 11 := by have := hr.s2; omega
  rcases hD : doF (C pc) (D pc) (S pc) (R pc) (O pc) (N pc) ((m1.setSteps ((k : Int) + 1)).abs L1) with ⟨of, er, a2⟩
  have hofs := zX8 hr hpc
  have HD0 : Hid (doF (C pc) (D pc) (S pc) (R pc) (O pc) (N pc) (m1.abs L1) = (of, er, a2)) := hD
  have HX1 : Hid (C pc = 28 -> (z2r (m1.reg 0) = 0 -> X = .fine (m1.reg 0).n (k + 1) (m1.abs L1)) /\ (z2r (m1.reg 0) ≠ 0 -> X = .bad (z2r (m1.reg 0)) pc)) := fun h => ⟨fun hw => HH.out.symm.trans (zAb hpc h hw), fun hw => HH.out.symm.trans (z7e hpc h hw)⟩
  have HX2 : Hid (C pc ≠ 28 -> (er ≠ 0 -> X = .bad er pc) /\ (er = 0 -> runF C D S R O N len (pc + 1 + of.toNat) (k + 1) a2 = X)) := fun h => ⟨fun hw => by
   have := zK7 (k := k) (a := m1.abs L1) (R := R) (D := D) (S := S) (O := O) (N := N) hpc h (by rw [HD0.out]; exact hw)
   rw [HD0.out] at this
   exact HH.out.symm.trans this, fun hw => by
   have := zI4 (k := k) (a := m1.abs L1) (R := R) (D := D) (S := S) (O := O) (N := N) hpc h (by rw [HD0.out]; exact hw)
   rw [HD0.out] at this
   exact this.symm.trans HH.out⟩
  have HOF : Hid (C pc ≠ 28 -> 0 <= of /\ (pc : Int) + 1 + of < len) := fun h => by have := hofs h (m1.abs L1); rw [HD0.out] at this; exact this
  have HOK : Hid (C pc ≠ 28 -> a2.Ok) := fun h => by have := zR9 hok1 hr.c1 hr.c2 h hr.d1 hr.d2 hr.s1 hr.s2 hn (r := R pc) (o := O pc); rw [HD0.out] at this; exact this
  have c1 := hr.c1
  have c2 := hr.c2
  have H27 : Hid (C pc = 27 -> N pc = 1 \/ N pc = 2 \/ N pc = 3) := hr.call
  rw [hd, hs] at hD
  rw [hd] at g1
  rw [hs] at g2
  clear hofs HD0 hd hs H hr HH
  generalize C pc = c at *
  generalize R pc = r at *
  generalize O pc = o at *
  generalize N pc = n at *
  have HD : Hid (doF c (d : Int) (s : Int) r o n ((m1.setSteps ((k : Int) + 1)).abs L1) = (of, er, a2)) := hD
  have HNN : Hid (In64 n) := hn
  clear hD hn HX HS HO hM hok h1
  have hk0 : (0 : Int) <= (k : Int) := by omega
  have hk1 : (k : Int) <= 200 := by omega
  have hp0 : (0 : Int) <= (pc : Int) := by omega
  have hp1 : (pc : Int) < len := by omega
  have hp2 : (pc : Int) <= 200 := by omega
  by_cases hc : c = 28
  ·have x28 : (c == 28) = true := by simpa using hc
   have HX3 : Hid ((z2r (m1.reg 0) = 0 -> X = .fine (m1.reg 0).n (k + 1) (m1.abs L1)) /\ (z2r (m1.reg 0) ≠ 0 -> X = .bad (z2r (m1.reg 0)) pc)) := HX1.out hc
   obtain ⟨r0, r1, r2⟩ := hM1.reg (d := 0) (by decide)
   simp only [Nat.reduceMul, Nat.reduceAdd] at r0 r1 r2
   clear hc c1 c2
   go_wp2_with (first
    | (go_at_call 79; refine (zDm (m1.reg 0).k (m1.reg 0).n (m1.reg 0).c _).mono ?_; rintro e w2 ⟨rfl, hb2⟩)
    | fail)
   go_ret
   have hMW := ((hM1.putSteps ((k : Int) + 1)).alloc _).later hb2
   have hKW : Kept B wr w2 := z1w (z0j (kept_set (z1b B wr) _ _) _) hb2
   refine ⟨z2r ⟨(m1.reg 0).k, (m1.reg 0).n, (m1.reg 0).c⟩, rfl, hb.trans (z4d hKW hB), _, L1, hMW, HO1.out.kept hKW, ?_⟩
   by_cases hw : z2r (m1.reg 0) = 0
   ·rw [HX3.out.1 hw]
    exact ⟨hw, rfl, rfl, rfl⟩
   ·rw [HX3.out.2 hw]
    exact ⟨rfl, hw, E3.out⟩
  ·have x28 : (c == 28) = false := by simpa using hc
   have HX3 : Hid ((er ≠ 0 -> X = .bad er pc) /\ (er = 0 -> runF C D S R O N len (pc + 1 + of.toNat) (k + 1) a2 = X)) := HX2.out hc
   have HOK3 : Hid a2.Ok := HOK.out hc
   have hof := HOF.out hc
   have HC28 : Hid (c ≠ 28) := hc
   obtain ⟨j, rfl⟩ := Int.eq_ofNat_of_zero_le hof.1
   have hj0 : (0 : Int) <= (j : Int) := by omega
   have hj1 : (pc : Int) + 1 + (j : Int) < len := hof.2
   have hlen2 : (len : Int) <= 200 := by omega
   have HOW : Hid (∀ Z : Obj, z1n ((wr.setCell ⟨B, 1, none⟩ (A F ((k : Int) + 1))).alloc Z) B m1.out L1) := fun Z => HO1.out.kept (z0j (kept_set (z1b B wr) _ _) _)
   clear hc hof HX1 HX2 HOF HOK
   by_cases he : er = 0
   ·subst he
    go_wp2_with (first
     | (go_at_call 80; refine (zVo B d s c o n r (m1.setSteps ((k : Int) + 1)) L1 hd11 hs11 _ ((hM1.putSteps ((k : Int) + 1)).alloc _) (HOW.out _) hok1 HNN.out c1 c2 HC28.out H27.out).mono ?_; rintro e w2 ⟨rfl, hr2⟩; rw [HD.out] at hr2 ⊢; dsimp only at hr2 ⊢; obtain ⟨hb2, m2, L2, hM2, hO2, e1, e2, ea⟩ := hr2; have HO2 : Hid (z1n w2 B m2.out L2) := hO2; have HE : Hid (m2.steps = (k : Int) + 1 /\ m2.abs L2 = a2) := ⟨e2, ea rfl⟩; have y0 := hM2.step; have y1 := hM2.frozen 0; rw [e1] at y0; change w2.cell? ⟨B, 0, none⟩ = some (A F m1.step) at y0; rw [E3.out] at y0; have hB2 := hM2.lt; clear hO2 e1 e2 ea)
     | fail)
    go_roundw
    case rel =>
     have hbw2 : Below B w w2 := (hb.trans (z4d (z0j (kept_set (z1b B wr) _ _) _) hB)).trans hb2
     have ha2 : m2.abs L2 = a2 := HE.out.2
     have hrun := HX3.out.2 rfl
     rw [Int.toNat_natCast, <- ha2] at hrun
     refine ⟨pc + 1 + j, k + 1, m2.setStep ((pc : Int) + (1 + (j : Int))), L2, by omega, by omega, ?_, hM2.putStep _, HO2.out.kept (kept_set (z1b B w2) _ _), ?_, ?_, ?_, hrun⟩
     ·have hr : B <= (⟨B, 0, none⟩ : Addr).block := Nat.le_refl _
      exact hbw2.setCell hr _
     ·have := HOK3.out
      rw [<- ha2] at this
      exact this
     ·show (pc : Int) + (1 + (j : Int)) = ((pc + 1 + j : Nat) : Int)
      omega
     ·show m2.steps = ((k + 1 : Nat) : Int)
      rw [HE.out.1]; omega
    case measure =>
     rw [z94 hM1, z94 (hM2.putStep ((pc : Int) + (1 + (j : Int)))), E3.out]
     show len - ((pc : Int) + (1 + (j : Int))).toNat < len - (pc : Int).toNat
     omega
   ·have he2 : (er != 0) = true := by simpa using he
    have HER : Hid (er ≠ 0) := he
    clear he
    go_wp2_with (first
     | (go_at_call 80; refine (zVo B d s c o n r (m1.setSteps ((k : Int) + 1)) L1 hd11 hs11 _ ((hM1.putSteps ((k : Int) + 1)).alloc _) (HOW.out _) hok1 HNN.out c1 c2 HC28.out H27.out).mono ?_; rintro e w2 ⟨rfl, hr2⟩; rw [HD.out] at hr2 ⊢; dsimp only at hr2 ⊢; have HR2 : Hid (Res B _ w2 (m1.setSteps ((k : Int) + 1)) er a2) := hr2; clear hr2)
     | fail)
    go_ret
    obtain ⟨hb2, m2, L2, hM2, hO2, e1, e2, ea⟩ := HR2.out
    refine ⟨er, rfl, (hb.trans (z4d (z0j (kept_set (z1b B wr) _ _) _) hB)).trans hb2, m2, L2, hM2, hO2, ?_⟩
    rw [HX3.out.1 HER.out]
    exact ⟨rfl, HER.out, e1.trans E3.out⟩
end
end
section
open Go.ChangeShapes Go.WideShapes Go.ChangeAt Go.RowKit
attribute [local simp] z00 z0d z07
def mac0 (T K : Nat -> Int) (time : Int) : Mac := ⟨0, 0, fun _ => z5s, fun _ => z5s, T, K, time, .slice none 0 0⟩
def zVp (z : Array Value) (T K : Nat -> Int) (time : Int) : Array Value :=
 ((((((((((((((((((((((((((((((z.setIfInBounds 83 (A F (T 0))).setIfInBounds 84 (A F (T 1))).setIfInBounds 85 (A F (T 2))).setIfInBounds 86 (A F (T 3))).setIfInBounds 87 (A F (T 4))).setIfInBounds 88 (A F (T 5))).setIfInBounds 89 (A F (T 6))).setIfInBounds 90 (A F (T 7))).setIfInBounds 91 (A F (K 0))).setIfInBounds 92 (A F (K 1))).setIfInBounds 93 (A F (K 2))).setIfInBounds 94 (A F (K 3))).setIfInBounds 95 (A F (K 4))).setIfInBounds 96 (A F (K 5))).setIfInBounds 97 (A F (K 6))).setIfInBounds 98 (A F (K 7))).setIfInBounds 99 (A F (K 8))).setIfInBounds 100 (A F (K 9))).setIfInBounds 101 (A F (K 10))).setIfInBounds 102 (A F (K 11))).setIfInBounds 103 (A F (K 12))).setIfInBounds 104 (A F (K 13))).setIfInBounds 105 (A F (K 14))).setIfInBounds 106 (A F (K 15))).setIfInBounds 107 (A F time)).setIfInBounds 5 (A F 2)).setIfInBounds 6 (A F 0)).setIfInBounds 7 (A F 0)).setIfInBounds 32 (A F 3)).setIfInBounds 33 (A F 0)).setIfInBounds 34 (A F 0)
def z4t (T K : Nat -> Int) (time : Int) : Mac := ((mac0 T K time).putReg 1 ⟨2, 0, 0⟩).putReg 10 ⟨3, 0, 0⟩
theorem zRj (T K : Nat -> Int) (time : Int) : zVp Tryz.zeroCells182 T K time = Array.ofFn (n := 109) fun i => (z4t T K time).cell i.1 := by
 kernel_rfl
theorem zT2 (w : World) (T K : Nat -> Int) (time : Int) : z09 (w.alloc (cT (zVp Tryz.zeroCells182 T K time) 182)) w.heap.size (z4t T K time) := by
 rw [zRj]
 show (w.heap.push _)[w.heap.size]? = _
 simp
theorem zHf (T K : Nat -> Int) (time : Int) (w : World) :
  Calls tP 58 #[.agg #[A F (T 0), A F (T 1), A F (T 2), A F (T 3), A F (T 4), A F (T 5), A F (T 6), A F (T 7)], .agg #[A F (K 0), A F (K 1), A F (K 2), A F (K 3), A F (K 4), A F (K 5), A F (K 6), A F (K 7), A F (K 8), A F (K 9), A F (K 10), A F (K 11), A F (K 12), A F (K 13), A F (K 14), A F (K 15)], A F time] w fun e w' => e = rT (pT (some ⟨w.heap.size + 1 + 1, 0, none⟩)) /\ Below w.heap.size w w' /\ z09 w' (w.heap.size + 1 + 1) (z4t T K time) := by
 go_enter Tryz.func58, Tryz.ntmps58
 go_wp2
 go_ret
 refine ⟨rfl, ?_, ?_⟩
 ·repeat' first | with_reducible (first | exact bF _ _ | refine bA ?_ ?_ _ | refine bS ?_ ?_ _) | ((try dsimp only); omega) | (simp; done) | (simp; omega)
 ·have h := zT2 ((w.alloc (cT #[A F (T 0), A F (T 1), A F (T 2), A F (T 3), A F (T 4), A F (T 5), A F (T 6), A F (T 7)] 34)).alloc (cT #[A F (K 0), A F (K 1), A F (K 2), A F (K 3), A F (K 4), A F (K 5), A F (K 6), A F (K 7), A F (K 8), A F (K 9), A F (K 10), A F (K 11), A F (K 12), A F (K 13), A F (K 14), A F (K 15)] 55)) T K time
  simp only [World.size_alloc] at h
  exact h
end
section
section
variable {P : Program} {md : Region.Mode} {ops : Array Oper} {Q : Exit -> Act -> World -> Prop} {S : World -> Prop}
theorem z0x {i : Nat} {oi : Oper} (d : Option Tmp) (v : Value) {fuel : Nat} {listed : Array Bool} {a : Act} {w : World} (hi : ops[i]? = some oi) (hd : oi.dst = d)
  (hs : Region.noSelect ops = true) (hf : Region.free md ops listed i = true) (hr : (Region.ready md ops listed).contains i = true)
  (hQ : ∀ c a w, Q (.panic c) (a.put oi.dst v) w -> Q (.panic c) a w) (hw : Region.wanted oi (yielded ops a.tmps) = true) (hy : ∀ w, S w -> (execOp a.eval oi).run P w = .ok (.value v) w) (hS : S w)
  (h : wpAnyH P md ops Q S fuel (listed.setIfInBounds i true) (a.put d v) w) : wpAnyH P md ops Q S (fuel + 1) listed a w := by
 subst hd
 exact wpAnyH_take hi hs hf hr hQ (Or.inl ⟨hw, hy⟩) hS h
theorem z6p {fuel : Nat} {listed : Array Bool} {a : Act} {w : World} {i : Nat} {o : Oper} {rs : List Nat} (d : Option Tmp) (v : Value) (w' : World) (ho : ops[i]? = some o) (hd : o.dst = d)
  (hw : Region.wanted o (yielded ops a.tmps) = true) (hrun : (execOp a.eval o).run P w = .ok (.value v) w') (hS : S w')
  (h : wpAnyH P md ops Q S fuel (listed.setIfInBounds i true) (a.put d v) w')
  (hs : AllReadyH P md ops Q S fuel listed a w rs) : AllReadyH P md ops Q S fuel listed a w (i :: rs) := by
 subst hd
 refine AllReadyH.cons ho (fun K hK => ?_) hs
 rw [if_pos hw]
 unfold Oper.wp
 rw [hrun]
 exact hK.out _ _ hS fun _ => h
theorem z5x {fuel : Nat} {listed : Array Bool} {a : Act} {w : World} {i : Nat} {o : Oper} {rs : List Nat} (w' : World) (ho : ops[i]? = some o) (hd : o.dst = none)
  (hw : Region.wanted o (yielded ops a.tmps) = true) (hrun : (execOp a.eval o).run P w = .ok .skip w') (hS : S w')
  (h : wpAnyH P md ops Q S fuel (listed.setIfInBounds i true) (a.put none undef) w')
  (hs : AllReadyH P md ops Q S fuel listed a w rs) : AllReadyH P md ops Q S fuel listed a w (i :: rs) := by
 refine AllReadyH.cons ho (fun K hK => ?_) hs
 rw [if_pos hw]
 unfold Oper.wp
 rw [hrun, Oper.upon_skip, hd]
 exact hK.out _ _ hS fun _ => h
end
end
section
open Go.ChangeShapes Go.WideShapes Go.ChangeAt Go.RowKit
attribute [local simp] z00 z0d z07
def z10 : Array Value := #[A F 0, A F 0, A F 0, A F 0, A F 0, A F 0, A F 0, A F 0, A F 0, A F 0, A F 0, A F 0, A F 0, A F 0, A F 0, A F 0, A F 0, .slice none 0 0, A F 0]
def zHh : Value := .agg z10
theorem Tryz.infoK : (Tryz.prog.info? 55).map (·.size) = some 16 := by kernel_rfl
theorem Tryz.infoRan : (Tryz.prog.info? 139).map (·.size) = some 19 := by kernel_rfl
theorem zOx (W : World) (g : Nat) (cs : Array Value) (h : W.heap[g]? = some (cT z10 139 (0, 0))) (hs : cs.size = 19) (h1 : cs.all (·.oneCell') = true) : (Instr.storeAt 139 (pT (some ⟨g, 0, none⟩)) (.agg cs)).run tP W = .ok () (W.setRow g cs) := by
 simp only [Instr.storeAt, Instr.sureAddr, Sem.run_bind, Sem.run_pure, Result.andThen_ok, run_storeVar_row W g 139 139 z10 cs h (by rw [Tryz.infoRan, hs]) (by rw [hs]; rfl) h1]
theorem z5w {o : Oper} {a : Act} (W : World) (x y : Operand) (g : Nat) (cs : Array Value) (ho : o.op = .store 139 x y) (hx : a.eval x = pT (some ⟨g, 0, none⟩)) (hy : a.eval y = .agg cs) (h : W.heap[g]? = some (cT z10 139 (0, 0))) (hs : cs.size = 19) (h1 : cs.all (·.oneCell') = true) : (execOp a.eval o).run tP W = .ok .skip (W.setRow g cs) := by
 unfold execOp
 simp only [ho, hx, hy, Sem.run_bind, Sem.run_pure, Result.andThen_ok, zOx W g cs h hs h1]
theorem zTv {o : Oper} {x : Operand} {u : Act} (W : World) (B : Nat) (m : Mac) (a : Abs) {L : List Int} (hM : z09 W B m) (ha : m.abs L = a) (cs : Array Value) (hcs : cs = #[A F (a.cel 0), A F (a.cel 1), A F (a.cel 2), A F (a.cel 3), A F (a.cel 4), A F (a.cel 5), A F (a.cel 6), A F (a.cel 7), A F (a.cel 8), A F (a.cel 9), A F (a.cel 10), A F (a.cel 11), A F (a.cel 12), A F (a.cel 13), A F (a.cel 14), A F (a.cel 15)]) (ho : o.op = .load 55 x) (hx : u.eval x = pT (some ⟨B, 91, none⟩)) : (execOp u.eval o).run tP W = .ok (.value (.agg cs)) W := by
 have hr : W.rangeAt B 91 cs.toList := by
  intro j v hv
  have hj : j < 16 := by have := (List.getElem?_eq_some_iff.1 hv).1; rw [hcs] at this; simpa using this
  rw [hM.cel hj]
  rw [show m.cel = a.cel by rw [<- ha]; rfl]
  rw [hcs] at hv
  have hk : ∀ i, i < 16 -> (#[Value.int .i64 (a.cel 0), Value.int .i64 (a.cel 1), Value.int .i64 (a.cel 2), Value.int .i64 (a.cel 3), Value.int .i64 (a.cel 4), Value.int .i64 (a.cel 5), Value.int .i64 (a.cel 6), Value.int .i64 (a.cel 7), Value.int .i64 (a.cel 8), Value.int .i64 (a.cel 9), Value.int .i64 (a.cel 10), Value.int .i64 (a.cel 11), Value.int .i64 (a.cel 12), Value.int .i64 (a.cel 13), Value.int .i64 (a.cel 14), Value.int .i64 (a.cel 15)] : Array Value).toList[i]? = some (A F (a.cel i)) := by
   intro i hi
   rcases (show i = 0 \/ i = 1 \/ i = 2 \/ i = 3 \/ i = 4 \/ i = 5 \/ i = 6 \/ i = 7 \/ i = 8 \/ i = 9 \/ i = 10 \/ i = 11 \/ i = 12 \/ i = 13 \/ i = 14 \/ i = 15 by omega) with rfl | rfl | rfl | rfl | rfl | rfl | rfl | rfl | rfl | rfl | rfl | rfl | rfl | rfl | rfl | rfl <;> rfl
  rw [hk j hj] at hv
  exact hv
 have hl := run_loadVar_mid (P := tP) W B 91 55 cs.toList _ hr Tryz.underlying55 rfl (by rw [Tryz.infoK, hcs]; rfl)
 unfold execOp
 simp only [ho, hx, Instr.loadAt, Instr.sureAddr, Sem.run_bind, Sem.run_pure, Result.andThen_ok, hl]
theorem zFa (o : Nat) : z10[o]? = [A F 0, A F 0, A F 0, A F 0, A F 0, A F 0, A F 0, A F 0, A F 0, A F 0, A F 0, A F 0, A F 0, A F 0, A F 0, A F 0, A F 0, .slice none 0 0, A F 0][o]? := by simp [z10]
theorem zC9 : z10.all (·.oneCell') = true := by kernel_rfl
theorem zBj {B : Nat} {a w : World} (h : Below B a w) {g : Nat} (hg : B <= g) (cs : Array Value) : Below B a (w.setRow g cs) :=
 h.trans ⟨rfl, rfl, rfl, by simp, fun k hk => setRow_other w g k cs (by omega)⟩
theorem z9y (w : World) (X Y Z : Obj) : (((w.alloc X).alloc Y).alloc Z).heap[w.heap.size + 1 + 1]? = some Z := by
 have := heap_alloc_new ((w.alloc X).alloc Y) Z
 simp only [World.size_alloc] at this
 exact this
theorem z6y (tmps : Array Value) (w' : World) (g : Nat) (cs : Array Value) (x : Value) (h8 : tmps.getD 8 undef = pT (some ⟨g, 0, none⟩)) (h9 : tmps.getD 9 undef = x) (hg : w'.heap[g]? = some (cT cs 139 (0, 0))) (hs : cs.size = 19) :
  (results Tryz.f45 tmps).run tP w' = .ok (.tuple #[.agg cs, x]) w' := by
 have h8' : tmps[8]?.getD undef = pT (some ⟨g, 0, none⟩) := by simpa using h8
 have h9' : tmps[9]?.getD undef = x := by simpa using h9
 have hl := run_loadVar_row (P := tP) w' g 139 139 cs (0, 0) _ hg Tryz.underlying139 rfl (by rw [Tryz.infoRan, hs])
 simp [results, Tryz.results45, asAddr, h8', h9', hl]
theorem Tryz.infoT : (Tryz.prog.info? 34).map (·.size) = some 8 := by kernel_rfl
def RS (B g : Nat) (m : Mac) (W : World) : Prop := z09 W B m /\ W.heap[g]? = some (cT z10 139 (0, 0))
theorem RS.row {B g : Nat} {m : Mac} {W : World} (h : RS B g m W) (hne : g ≠ B) : RS B g m (W.setRow g z10) := ⟨(setRow_other W g B z10 (fun e => hne e.symm)).trans h.1, setRow_heap W g z10 z10 _ _ h.2⟩
def RS2 (B g : Nat) (m : Mac) (W : World) : Prop := z09 W B m /\ ∃ cs : Array Value, cs.size = 19 /\ W.heap[g]? = some (cT cs 139 (0, 0))
theorem zW9 {w3 : World} {b b' g : Nat} {e : TypeId} {z : Nat} {v : Value} {n : Nat} {xs : List Value} (h : w3.ownsRow b e z v n xs) (hg : g < b) (hb : b' <= b) (cs : Array Value) : (w3.drew.setRow g cs).ownsRow b' e z v n xs := by
 obtain ⟨h1, h2⟩ := h
 refine ⟨h1, ?_⟩
 rcases h2 with h2 | ⟨k, cap, cur, hv, hk, hh, r⟩
 ·exact Or.inl h2
 ·exact Or.inr ⟨k, cap, cur, hv, by omega, (setRow_other w3.drew g k cs (by omega)).trans hh, r⟩
theorem zBc (w : World) (X Y Z : Obj) : (((w.alloc X).alloc Y).alloc Z).heap[w.heap.size]? = some X := by
 have e1 := Below.heap_alloc ((w.alloc X).alloc Y) Z w.heap.size (by simp; omega)
 have e2 := Below.heap_alloc (w.alloc X) Y w.heap.size (by simp)
 rw [e1, e2]; exact heap_alloc_new w X
theorem z8f (w : World) (X Y Z : Obj) : (((w.alloc X).alloc Y).alloc Z).heap[w.heap.size + 1]? = some Y := by
 have e1 := Below.heap_alloc ((w.alloc X).alloc Y) Z (w.heap.size + 1) (by simp)
 have e2 := heap_alloc_new (w.alloc X) Y
 simp only [World.size_alloc] at e2
 rw [e1, e2]
theorem z7c {T K : Nat -> Int} {time : Int} (hT : ∀ i, i < 8 -> In64 (T i)) (hK : ∀ i, i < 16 -> In64 (K i)) (ht : In64 time) : ((z4t T K time).abs []).Ok := by
 refine ⟨fun i _ => ?_, fun i _ => z7m, hT, hK, ht, fun x hx => absurd hx (by simp [Mac.abs]), Nat.zero_le _⟩
 show (if i = 10 then (⟨3, 0, 0⟩ : Val) else if i = 1 then ⟨2, 0, 0⟩ else z5s).Ok
 split
 ·exact ⟨by decide, by decide, ⟨by decide, by decide⟩, by decide, by decide⟩
 split
 ·exact ⟨by decide, by decide, ⟨by decide, by decide⟩, by decide, by decide⟩
 ·exact z7m
theorem zW2 (bk off len cap : Nat) (C D S O N : Nat -> Int) (R : Nat -> Bool) (T K : Nat -> Int) (time : Int) (w : World) (h1 : 1 <= len) (h2 : len <= 200) (hbk : bk < w.heap.size) (hst : z1l w bk off len C D S R O N) (h : ∀ j, j < len -> z1j len C D S R O N j = 0) (hN : ∀ k, k < len -> In64 (N k)) (hT : ∀ i, i < 8 -> In64 (T i)) (hK : ∀ i, i < 16 -> In64 (K i)) (ht : In64 time) (er : Int) (q : Nat) (HR : Hid (runF C D S R O N len 0 0 ((z4t T K time).abs []) = .bad er q)) :
  Calls tP 45 #[.slice (some ⟨bk, off, none⟩) len cap, .agg #[A F (T 0), A F (T 1), A F (T 2), A F (T 3), A F (T 4), A F (T 5), A F (T 6), A F (T 7)], .agg #[A F (K 0), A F (K 1), A F (K 2), A F (K 3), A F (K 4), A F (K 5), A F (K 6), A F (K 7), A F (K 8), A F (K 9), A F (K 10), A F (K 11), A F (K 12), A F (K 13), A F (K 14), A F (K 15)], A F time] w fun e w' => ∃ p, e = rT (.tuple #[zHh, .iface 150 (pT (some ⟨p, 0, none⟩))]) /\ Below w.heap.size w w' /\ p < w'.heap.size /\ w'.cell? ⟨p, 0, none⟩ = some (A F er) /\ w'.cell? ⟨p, 1, none⟩ = some (A F q) /\ er ≠ 0 := by
 have HC : Hid (∀ W : World, Below w.heap.size w W -> Calls tP 50 #[.slice (some ⟨bk, off, none⟩) len cap] W fun e w' => e = rT .nilIface /\ Below W.heap.size W w') := fun W hW => z4n h (hst.later hW hbk) h1 h2 (Nat.lt_of_lt_of_le hbk hW.size)
 have HG : Hid (∀ (B : Nat) (W : World), w.heap.size < B -> Below w.heap.size w W -> z09 W B (z4t T K time) -> Calls tP 59 #[pT (some ⟨B, 0, none⟩), .slice (some ⟨bk, off, none⟩) len cap] W fun e w' => ∃ E, e = rT (A F E) /\ Gone B W w' (runF C D S R O N len 0 0 ((z4t T K time).abs [])) E) := fun B W hB hW hM => zKu B bk off len cap C D S O N R (z4t T K time) [] W hM (World.ownsRow_nil W (B + 1) _ 1) (z7c hT hK ht) (hst.later hW hbk) (by omega) h2 h1 h hN rfl rfl
 have HB : Hid (Below w.heap.size w (((w.alloc (cT #[A F (T 0), A F (T 1), A F (T 2), A F (T 3), A F (T 4), A F (T 5), A F (T 6), A F (T 7)] 34)).alloc (cT #[A F (K 0), A F (K 1), A F (K 2), A F (K 3), A F (K 4), A F (K 5), A F (K 6), A F (K 7), A F (K 8), A F (K 9), A F (K 10), A F (K 11), A F (K 12), A F (K 13), A F (K 14), A F (K 15)] 55)).alloc (cT z10 139))) := ((((bF _ _).alloc (Nat.le_refl _) _).alloc (by simp) _).alloc (by simp; omega) _)
 have HT : Hid ((((w.alloc (cT #[A F (T 0), A F (T 1), A F (T 2), A F (T 3), A F (T 4), A F (T 5), A F (T 6), A F (T 7)] 34)).alloc (cT #[A F (K 0), A F (K 1), A F (K 2), A F (K 3), A F (K 4), A F (K 5), A F (K 6), A F (K 7), A F (K 8), A F (K 9), A F (K 10), A F (K 11), A F (K 12), A F (K 13), A F (K 14), A F (K 15)] 55)).alloc (cT z10 139)).heap[w.heap.size + 1 + 1]? = some (cT z10 139 (0, 0))) := z9y _ _ _ _
 have HX : Hid ((((w.alloc (cT #[A F (T 0), A F (T 1), A F (T 2), A F (T 3), A F (T 4), A F (T 5), A F (T 6), A F (T 7)] 34)).alloc (cT #[A F (K 0), A F (K 1), A F (K 2), A F (K 3), A F (K 4), A F (K 5), A F (K 6), A F (K 7), A F (K 8), A F (K 9), A F (K 10), A F (K 11), A F (K 12), A F (K 13), A F (K 14), A F (K 15)] 55)).alloc (cT z10 139)).heap[w.heap.size]? = some (cT #[A F (T 0), A F (T 1), A F (T 2), A F (T 3), A F (T 4), A F (T 5), A F (T 6), A F (T 7)] 34 (0, 0))) := zBc _ _ _ _
 have HY : Hid ((((w.alloc (cT #[A F (T 0), A F (T 1), A F (T 2), A F (T 3), A F (T 4), A F (T 5), A F (T 6), A F (T 7)] 34)).alloc (cT #[A F (K 0), A F (K 1), A F (K 2), A F (K 3), A F (K 4), A F (K 5), A F (K 6), A F (K 7), A F (K 8), A F (K 9), A F (K 10), A F (K 11), A F (K 12), A F (K 13), A F (K 14), A F (K 15)] 55)).alloc (cT z10 139)).heap[w.heap.size + 1]? = some (cT #[A F (K 0), A F (K 1), A F (K 2), A F (K 3), A F (K 4), A F (K 5), A F (K 6), A F (K 7), A F (K 8), A F (K 9), A F (K 10), A F (K 11), A F (K 12), A F (K 13), A F (K 14), A F (K 15)] 55 (0, 0))) := z8f _ _ _ _
 clear hst h hbk hT hK ht hN h1 h2
 go_enter Tryz.func45, Tryz.ntmps45
 go_wp2_with (first
  | (go_at_call 50; refine (HC.out _ HB.out).mono ?_; rintro e w1 ⟨rfl, hb1⟩; have HZ1 : Hid (w1.heap[w.heap.size + 1 + 1]? = some (cT z10 139 (0, 0))) := (hb1.block (w.heap.size + 1 + 1) (by simp)).trans HT.out; have HX1 : Hid (w1.heap[w.heap.size]? = some (cT #[A F (T 0), A F (T 1), A F (T 2), A F (T 3), A F (T 4), A F (T 5), A F (T 6), A F (T 7)] 34 (0, 0))) := (hb1.block w.heap.size (by simp; omega)).trans HX.out; have HY1 : Hid (w1.heap[w.heap.size + 1]? = some (cT #[A F (K 0), A F (K 1), A F (K 2), A F (K 3), A F (K 4), A F (K 5), A F (K 6), A F (K 7), A F (K 8), A F (K 9), A F (K 10), A F (K 11), A F (K 12), A F (K 13), A F (K 14), A F (K 15)] 55 (0, 0))) := (hb1.block (w.heap.size + 1) (by simp)).trans HY.out; have HBW : Hid (Below w.heap.size w w1) := HB.out.trans (hb1.mono HB.out.size); have HS1 : Hid (w.heap.size + 1 + 1 < w1.heap.size) := (by have := hb1.size; simp at this; show w.heap.size + 1 + 1 < w1.heap.size; omega); clear hb1)
  | (refine wpList_load_row rfl 34 (.tmp 5) rfl w.heap.size rfl 34 #[A F (T 0), A F (T 1), A F (T 2), A F (T 3), A F (T 4), A F (T 5), A F (T 6), A F (T 7)] (0, 0) _ HX1.out Tryz.underlying34 rfl Tryz.infoT ?_)
  | (refine wpList_load_row rfl 55 (.tmp 6) rfl (w.heap.size + 1) rfl 55 #[A F (K 0), A F (K 1), A F (K 2), A F (K 3), A F (K 4), A F (K 5), A F (K 6), A F (K 7), A F (K 8), A F (K 9), A F (K 10), A F (K 11), A F (K 12), A F (K 13), A F (K 14), A F (K 15)] (0, 0) _ HY1.out Tryz.underlying55 rfl Tryz.infoK ?_)
  | (go_at_call 58; refine (zHf T K time _).mono ?_; rintro e w2 ⟨rfl, hb2, hM2⟩; obtain ⟨B, hBe⟩ : ∃ B, w1.heap.size + 1 + 1 = B := ⟨_, rfl⟩; rw [hBe] at hM2 ⊢; have HBe : Hid (w.heap.size + 1 + 1 < B) := (by have := HS1.out; show w.heap.size + 1 + 1 < B; omega); have HM2 : Hid (z09 w2 B (z4t T K time)) := hM2; have HB2 : Hid (Below w1.heap.size w1 w2) := hb2; clear hBe hM2 hb2)
  | (go_at_call 59; go_must (refine (HG.out B _ (by have := HBe.out; omega) (HBW.out.trans (HB2.out.mono HBW.out.size)) HM2.out).mono ?_; rintro e w3 ⟨E, rfl, hg⟩; rw [HR.out] at hg; obtain ⟨hb3, m3, L3, hM3, hO3, hE, hE0, hst3⟩ := hg; subst hE; have HE0 : Hid (E ≠ 0) := hE0; have he1 : (E != 0) = true := (by simpa using hE0); have HQ : Hid (m3.step = (q : Int)) := hst3; clear hE0 hst3 hO3; have HZ3 : Hid (w3.heap[w.heap.size + 1 + 1]? = some (cT z10 139 (0, 0))) := (hb3.block _ HBe.out).trans ((HB2.out.block _ HS1.out).trans HZ1.out); have HBW3 : Hid (Below w.heap.size w w3) := (HBW.out.trans (HB2.out.mono HBW.out.size)).trans (hb3.mono (by have := HBe.out; omega)); have hz3 : ∀ o, w3.cell? ⟨w.heap.size + 1 + 1, o, none⟩ = [A F 0, A F 0, A F 0, A F 0, A F 0, A F 0, A F 0, A F 0, A F 0, A F 0, A F 0, A F 0, A F 0, A F 0, A F 0, A F 0, A F 0, .slice none 0 0, A F 0][o]? := (fun o => (cell_of_row w3 _ o z10 _ _ HZ3.out).trans (zFa o)); have fz3 : ∀ o, w3.frozen? ⟨w.heap.size + 1 + 1, o, none⟩ = false := (fun o => by simp [World.frozen?, HZ3.out]); have hB3 := hM3.lt; have hS3 : w.heap.size + 1 + 1 < w3.heap.size := (by have := HBe.out; omega); have hne : w.heap.size + 1 + 1 ≠ B := (by have := HBe.out; omega)))
  | fail)
 clear HC HG HB HT HX HY HX1 HY1 HZ1 HB2 HM2 HBW hz3 fz3
 refine wp_region_held_drew (S := RS B (w.heap.size + 1 + 1) m3) (by kernel_rfl) ⟨hM3, HZ3.out⟩ fun hS => ?_
 change wpAnyH _ _ _ _ _ 11 (Array.replicate 11 false) _ _
 refine z0x (i := 0) (some 28) (.agg #[A F 0, A F 0, A F 0, A F 0, A F 0, A F 0, A F 0, A F 0, A F 0, A F 0, A F 0, A F 0, A F 0, A F 0, A F 0, A F 0, A F 0, .slice none 0 0, A F 0]) rfl rfl (by kernel_rfl) (by kernel_rfl) (by kernel_rfl) (fun _ _ _ h => h) (by rfl) (fun W hW => ?_) hS ?_
 ·go_simp
 simp only [Act.put, siA, scZ, scS]
 refine z0x (i := 1) (some 29) (A F E) rfl rfl (by kernel_rfl) (by kernel_rfl) (by kernel_rfl) (fun _ _ _ h => h) (by rfl) (fun W hW => ?_) hS ?_
 ·go_simp
 simp only [Act.put, siA, scZ, scS]
 refine z0x (i := 2) (some 30) (pT (some ⟨B, 0, none⟩)) rfl rfl (by kernel_rfl) (by kernel_rfl) (by kernel_rfl) (fun _ _ _ h => h) (by rfl) (fun W hW => ?_) hS ?_
 ·go_simp
 simp only [Act.put, siA, scZ, scS]
 refine z0x (i := 3) (some 31) (pT (some ⟨B, 0, none⟩)) rfl rfl (by kernel_rfl) (by kernel_rfl) (by kernel_rfl) (fun _ _ _ h => h) (by rfl) (fun W hW => ?_) hS ?_
 ·go_simp
 simp only [Act.put, siA, scZ, scS]
 refine z0x (i := 4) (some 32) (pT (some ⟨B, 0, none⟩)) rfl rfl (by kernel_rfl) (by kernel_rfl) (by kernel_rfl) (fun _ _ _ h => h) (by rfl) (fun W hW => ?_) hS ?_
 ·go_simp
 simp only [Act.put, siA, scZ, scS]
 refine z0x (i := 5) (some 33) (A F (q : Int)) rfl rfl (by kernel_rfl) (by kernel_rfl) (by kernel_rfl) (fun _ _ _ h => h) (by rfl) (fun W hW => ?_) hS ?_
 ·have y0 : W.cell? ⟨B, 0, none⟩ = some (A F (q : Int)) := (by rw [hW.1.step]; exact congrArg _ (congrArg _ HQ.out))
  go_simp
 simp only [Act.put, siA, scZ, scS]
 refine z0x (i := 6) (some 34) (.agg #[A F E, A F (q : Int)]) rfl rfl (by kernel_rfl) (by kernel_rfl) (by kernel_rfl) (fun _ _ _ h => h) (by rfl) (fun W hW => ?_) hS ?_
 ·go_simp
 simp only [Act.put, siA, scZ, scS]
 refine wpAnyH_ready (rs := [7, 9]) (by kernel_rfl) (by simp) ?_
 have hA : RS B (w.heap.size + 1 + 1) m3 (w3.drew.alloc (cT #[A F E, A F (q : Int)] 151)) := ⟨hM3.drew.alloc _, (Below.heap_alloc w3.drew _ _ hS3).trans HZ3.out⟩
 have hA2 : RS B (w.heap.size + 1 + 1) m3 ((w3.drew.alloc (cT #[A F E, A F (q : Int)] 151)).setRow (w.heap.size + 1 + 1) z10) := RS.row hA hne
 have hA3 : RS B (w.heap.size + 1 + 1) m3 (w3.drew.setRow (w.heap.size + 1 + 1) z10) := RS.row hS hne
 have hA4 : RS B (w.heap.size + 1 + 1) m3 ((w3.drew.setRow (w.heap.size + 1 + 1) z10).alloc (cT #[A F E, A F (q : Int)] 151)) := ⟨hA3.1.alloc _, (Below.heap_alloc _ _ _ (by simpa using hS3)).trans hA3.2⟩
 refine z6p (some 35) (pT (some ⟨w3.heap.size, 0, none⟩)) (w3.drew.alloc (cT #[A F E, A F (q : Int)] 151)) rfl rfl (by rfl) ?_ hA ?_ (z5x (w3.drew.setRow (w.heap.size + 1 + 1) z10) rfl rfl (by rfl) ?_ hA3 ?_ AllReadyH.nil)
 ·go_simp
 ·simp only [Act.put, siA, scZ, scS]
  refine z0x (i := 8) (some 36) (.iface 150 (pT (some ⟨w3.heap.size, 0, none⟩))) rfl rfl (by kernel_rfl) (by kernel_rfl) (by kernel_rfl) (fun _ _ _ h => h) (by rfl) (fun W hW => ?_) hA ?_
  ·go_simp
  simp only [Act.put, siA, scZ, scS]
  refine wpAnyH_ready (rs := [9]) (by kernel_rfl) (by simp) ?_
  refine z5x ((w3.drew.alloc (cT #[A F E, A F (q : Int)] 151)).setRow (w.heap.size + 1 + 1) z10) rfl rfl (by rfl) ?_ hA2 ?_ AllReadyH.nil
  ·exact z5w _ _ _ _ _ rfl rfl rfl hA.2 rfl zC9
  simp only [Act.put]
  refine z0x (i := 10) (some 9) (.iface 150 (pT (some ⟨w3.heap.size, 0, none⟩))) rfl rfl (by kernel_rfl) (by kernel_rfl) (by kernel_rfl) (fun _ _ _ h => h) (by rfl) (fun W hW => ?_) hA2 ?_
  ·go_simp
  simp only [Act.put, siA, scZ, scS]
  refine wpAnyH_done (by kernel_rfl) ?_ _
  go_wp2
  exact bodyPost_ret (v := .tuple #[zHh, .iface 150 (pT (some ⟨w3.heap.size, 0, none⟩))]) (z6y _ _ (w.heap.size + 1 + 1) z10 _ rfl rfl hA2.2 rfl) rfl ⟨w3.heap.size, rfl, zBj ((HBW3.out.drew).alloc (by have := HBW3.out.size; simpa using this) _) (by omega) _, by simp, by rw [cell_setRow_other _ _ _ _ (by show w3.heap.size ≠ _; omega), World.cell?_alloc_at _ _ _ _ (by simp)]; rfl, by rw [cell_setRow_other _ _ _ _ (by show w3.heap.size ≠ _; omega), World.cell?_alloc_at _ _ _ _ (by simp)]; rfl, HE0.out⟩
 ·exact z5w _ _ _ _ _ rfl rfl rfl hS.2 rfl zC9
 ·simp only [Act.put]
  refine wpAnyH_ready (rs := [7]) (by kernel_rfl) (by simp) ?_
  refine z6p (some 35) (pT (some ⟨w3.heap.size, 0, none⟩)) ((w3.drew.setRow (w.heap.size + 1 + 1) z10).alloc (cT #[A F E, A F (q : Int)] 151)) rfl rfl (by rfl) ?_ hA4 ?_ AllReadyH.nil
  ·go_simp
  simp only [Act.put, siA, scZ, scS]
  refine z0x (i := 8) (some 36) (.iface 150 (pT (some ⟨w3.heap.size, 0, none⟩))) rfl rfl (by kernel_rfl) (by kernel_rfl) (by kernel_rfl) (fun _ _ _ h => h) (by rfl) (fun W hW => ?_) hA4 ?_
  ·go_simp
  simp only [Act.put, siA, scZ, scS]
  refine z0x (i := 10) (some 9) (.iface 150 (pT (some ⟨w3.heap.size, 0, none⟩))) rfl rfl (by kernel_rfl) (by kernel_rfl) (by kernel_rfl) (fun _ _ _ h => h) (by rfl) (fun W hW => ?_) hA4 ?_
  ·go_simp
  simp only [Act.put, siA, scZ, scS]
  refine wpAnyH_done (by kernel_rfl) ?_ _
  go_wp2
  exact bodyPost_ret (v := .tuple #[zHh, .iface 150 (pT (some ⟨w3.heap.size, 0, none⟩))]) (z6y _ _ (w.heap.size + 1 + 1) z10 _ rfl rfl hA4.2 rfl) rfl ⟨w3.heap.size, rfl, (zBj HBW3.out.drew (by omega) _).alloc (by have := HBW3.out.size; simpa using this) _, by simp, by rw [World.cell?_alloc_at _ _ _ _ (by simp)]; rfl, by rw [World.cell?_alloc_at _ _ _ _ (by simp)]; rfl, HE0.out⟩
theorem zT5 (bk off len cap : Nat) (C D S O N : Nat -> Int) (R : Nat -> Bool) (T K : Nat -> Int) (time : Int) (w : World) (h1 : 1 <= len) (h2 : len <= 200) (hbk : bk < w.heap.size) (hst : z1l w bk off len C D S R O N) (h : ∀ j, j < len -> z1j len C D S R O N j = 0) (hN : ∀ k, k < len -> In64 (N k)) (hT : ∀ i, i < 8 -> In64 (T i)) (hK : ∀ i, i < 16 -> In64 (K i)) (ht : In64 time) (n0 : Int) (k : Nat) (a : Abs) (HR : Hid (runF C D S R O N len 0 0 ((z4t T K time).abs []) = .fine n0 k a)) :
  Calls tP 45 #[.slice (some ⟨bk, off, none⟩) len cap, .agg #[A F (T 0), A F (T 1), A F (T 2), A F (T 3), A F (T 4), A F (T 5), A F (T 6), A F (T 7)], .agg #[A F (K 0), A F (K 1), A F (K 2), A F (K 3), A F (K 4), A F (K 5), A F (K 6), A F (K 7), A F (K 8), A F (K 9), A F (K 10), A F (K 11), A F (K 12), A F (K 13), A F (K 14), A F (K 15)], A F time] w fun e w' => ∃ v3, e = rT (.tuple #[.agg #[A F n0, A F (a.cel 0), A F (a.cel 1), A F (a.cel 2), A F (a.cel 3), A F (a.cel 4), A F (a.cel 5), A F (a.cel 6), A F (a.cel 7), A F (a.cel 8), A F (a.cel 9), A F (a.cel 10), A F (a.cel 11), A F (a.cel 12), A F (a.cel 13), A F (a.cel 14), A F (a.cel 15), v3, A F (k : Int)], .nilIface]) /\ Below w.heap.size w w' /\ w'.ownsRow (w.heap.size + 1) 2 1 v3 a.out.length (a.out.map (Value.int .i64)) := by
 have HC : Hid (∀ W : World, Below w.heap.size w W -> Calls tP 50 #[.slice (some ⟨bk, off, none⟩) len cap] W fun e w' => e = rT .nilIface /\ Below W.heap.size W w') := fun W hW => z4n h (hst.later hW hbk) h1 h2 (Nat.lt_of_lt_of_le hbk hW.size)
 have HG : Hid (∀ (B : Nat) (W : World), w.heap.size < B -> Below w.heap.size w W -> z09 W B (z4t T K time) -> Calls tP 59 #[pT (some ⟨B, 0, none⟩), .slice (some ⟨bk, off, none⟩) len cap] W fun e w' => ∃ E, e = rT (A F E) /\ Gone B W w' (runF C D S R O N len 0 0 ((z4t T K time).abs [])) E) := fun B W hB hW hM => zKu B bk off len cap C D S O N R (z4t T K time) [] W hM (World.ownsRow_nil W (B + 1) _ 1) (z7c hT hK ht) (hst.later hW hbk) (by omega) h2 h1 h hN rfl rfl
 have HB : Hid (Below w.heap.size w (((w.alloc (cT #[A F (T 0), A F (T 1), A F (T 2), A F (T 3), A F (T 4), A F (T 5), A F (T 6), A F (T 7)] 34)).alloc (cT #[A F (K 0), A F (K 1), A F (K 2), A F (K 3), A F (K 4), A F (K 5), A F (K 6), A F (K 7), A F (K 8), A F (K 9), A F (K 10), A F (K 11), A F (K 12), A F (K 13), A F (K 14), A F (K 15)] 55)).alloc (cT z10 139))) := ((((bF _ _).alloc (Nat.le_refl _) _).alloc (by simp) _).alloc (by simp; omega) _)
 have HT : Hid ((((w.alloc (cT #[A F (T 0), A F (T 1), A F (T 2), A F (T 3), A F (T 4), A F (T 5), A F (T 6), A F (T 7)] 34)).alloc (cT #[A F (K 0), A F (K 1), A F (K 2), A F (K 3), A F (K 4), A F (K 5), A F (K 6), A F (K 7), A F (K 8), A F (K 9), A F (K 10), A F (K 11), A F (K 12), A F (K 13), A F (K 14), A F (K 15)] 55)).alloc (cT z10 139)).heap[w.heap.size + 1 + 1]? = some (cT z10 139 (0, 0))) := z9y _ _ _ _
 have HX : Hid ((((w.alloc (cT #[A F (T 0), A F (T 1), A F (T 2), A F (T 3), A F (T 4), A F (T 5), A F (T 6), A F (T 7)] 34)).alloc (cT #[A F (K 0), A F (K 1), A F (K 2), A F (K 3), A F (K 4), A F (K 5), A F (K 6), A F (K 7), A F (K 8), A F (K 9), A F (K 10), A F (K 11), A F (K 12), A F (K 13), A F (K 14), A F (K 15)] 55)).alloc (cT z10 139)).heap[w.heap.size]? = some (cT #[A F (T 0), A F (T 1), A F (T 2), A F (T 3), A F (T 4), A F (T 5), A F (T 6), A F (T 7)] 34 (0, 0))) := zBc _ _ _ _
 have HY : Hid ((((w.alloc (cT #[A F (T 0), A F (T 1), A F (T 2), A F (T 3), A F (T 4), A F (T 5), A F (T 6), A F (T 7)] 34)).alloc (cT #[A F (K 0), A F (K 1), A F (K 2), A F (K 3), A F (K 4), A F (K 5), A F (K 6), A F (K 7), A F (K 8), A F (K 9), A F (K 10), A F (K 11), A F (K 12), A F (K 13), A F (K 14), A F (K 15)] 55)).alloc (cT z10 139)).heap[w.heap.size + 1]? = some (cT #[A F (K 0), A F (K 1), A F (K 2), A F (K 3), A F (K 4), A F (K 5), A F (K 6), A F (K 7), A F (K 8), A F (K 9), A F (K 10), A F (K 11), A F (K 12), A F (K 13), A F (K 14), A F (K 15)] 55 (0, 0))) := z8f _ _ _ _
 clear hst h hbk hT hK ht hN h1 h2
 go_enter Tryz.func45, Tryz.ntmps45
 go_wp2_with (first
  | (go_at_call 50; refine (HC.out _ HB.out).mono ?_; rintro e w1 ⟨rfl, hb1⟩; have HZ1 : Hid (w1.heap[w.heap.size + 1 + 1]? = some (cT z10 139 (0, 0))) := (hb1.block (w.heap.size + 1 + 1) (by simp)).trans HT.out; have HX1 : Hid (w1.heap[w.heap.size]? = some (cT #[A F (T 0), A F (T 1), A F (T 2), A F (T 3), A F (T 4), A F (T 5), A F (T 6), A F (T 7)] 34 (0, 0))) := (hb1.block w.heap.size (by simp; omega)).trans HX.out; have HY1 : Hid (w1.heap[w.heap.size + 1]? = some (cT #[A F (K 0), A F (K 1), A F (K 2), A F (K 3), A F (K 4), A F (K 5), A F (K 6), A F (K 7), A F (K 8), A F (K 9), A F (K 10), A F (K 11), A F (K 12), A F (K 13), A F (K 14), A F (K 15)] 55 (0, 0))) := (hb1.block (w.heap.size + 1) (by simp)).trans HY.out; have HBW : Hid (Below w.heap.size w w1) := HB.out.trans (hb1.mono HB.out.size); have HS1 : Hid (w.heap.size + 1 + 1 < w1.heap.size) := (by have := hb1.size; simp at this; show w.heap.size + 1 + 1 < w1.heap.size; omega); clear hb1)
  | (refine wpList_load_row rfl 34 (.tmp 5) rfl w.heap.size rfl 34 #[A F (T 0), A F (T 1), A F (T 2), A F (T 3), A F (T 4), A F (T 5), A F (T 6), A F (T 7)] (0, 0) _ HX1.out Tryz.underlying34 rfl Tryz.infoT ?_)
  | (refine wpList_load_row rfl 55 (.tmp 6) rfl (w.heap.size + 1) rfl 55 #[A F (K 0), A F (K 1), A F (K 2), A F (K 3), A F (K 4), A F (K 5), A F (K 6), A F (K 7), A F (K 8), A F (K 9), A F (K 10), A F (K 11), A F (K 12), A F (K 13), A F (K 14), A F (K 15)] (0, 0) _ HY1.out Tryz.underlying55 rfl Tryz.infoK ?_)
  | (go_at_call 58; refine (zHf T K time _).mono ?_; rintro e w2 ⟨rfl, hb2, hM2⟩; obtain ⟨B, hBe⟩ : ∃ B, w1.heap.size + 1 + 1 = B := ⟨_, rfl⟩; rw [hBe] at hM2 ⊢; have HBe : Hid (w.heap.size + 1 + 1 < B) := (by have := HS1.out; show w.heap.size + 1 + 1 < B; omega); have HM2 : Hid (z09 w2 B (z4t T K time)) := hM2; have HB2 : Hid (Below w1.heap.size w1 w2) := hb2; clear hBe hM2 hb2)
  | (go_at_call 59; go_must (refine (HG.out B _ (by have := HBe.out; omega) (HBW.out.trans (HB2.out.mono HBW.out.size)) HM2.out).mono ?_; rintro e w3 ⟨E, rfl, hg⟩; rw [HR.out] at hg; obtain ⟨hb3, m3, L3, hM3, hO3, hE, hst3, ha3, hn3⟩ := hg; subst hE; have HA : Hid (m3.abs L3 = a) := ha3; have HK0 : Hid (m3.steps = (k : Int)) := hst3; have HN3 : Hid (n0 = (a.reg 0).n) := hn3; have HO3 : Hid (z1n w3 B m3.out L3) := hO3; clear hst3 hO3 ha3 hn3; have HZ3 : Hid (w3.heap[w.heap.size + 1 + 1]? = some (cT z10 139 (0, 0))) := (hb3.block _ HBe.out).trans ((HB2.out.block _ HS1.out).trans HZ1.out); have HBW3 : Hid (Below w.heap.size w w3) := (HBW.out.trans (HB2.out.mono HBW.out.size)).trans (hb3.mono (by have := HBe.out; omega)); have hz3 : ∀ o, w3.cell? ⟨w.heap.size + 1 + 1, o, none⟩ = [A F 0, A F 0, A F 0, A F 0, A F 0, A F 0, A F 0, A F 0, A F 0, A F 0, A F 0, A F 0, A F 0, A F 0, A F 0, A F 0, A F 0, .slice none 0 0, A F 0][o]? := (fun o => (cell_of_row w3 _ o z10 _ _ HZ3.out).trans (zFa o)); have fz3 : ∀ o, w3.frozen? ⟨w.heap.size + 1 + 1, o, none⟩ = false := (fun o => by simp [World.frozen?, HZ3.out]); have hB3 := hM3.lt; have hS3 : w.heap.size + 1 + 1 < w3.heap.size := (by have := HBe.out; omega); have hne : w.heap.size + 1 + 1 ≠ B := (by have := HBe.out; omega)))
  | fail)
 clear HC HG HB HT HX HY HX1 HY1 HZ1 HB2 HM2 HBW hz3 fz3
 obtain ⟨v3, hv3⟩ : ∃ v3, m3.out = v3 := ⟨_, rfl⟩
 have HV3 : Hid (some m3.out = some v3) := congrArg some hv3
 have HVV : Hid (m3.out = v3) := hv3
 have HSL : Hid (∃ q1 q2 q3, v3 = .slice q1 q2 q3) := by obtain ⟨p, c, hh⟩ := HO3.out.shape; exact ⟨p, _, c, hv3.symm.trans hh⟩
 have HK3 : Hid (some (Value.int .i64 m3.steps) = some (A F (k : Int))) := congrArg (fun x => some (Value.int .i64 x)) HK0.out
 have HN0 : Hid (some (m3.cell 3) = some (A F n0)) := by rw [HN3.out, <- HA.out]; rfl
 clear hv3
 refine wp_region_held_drew (S := RS2 B (w.heap.size + 1 + 1) m3) (by kernel_rfl) ⟨hM3, z10, rfl, HZ3.out⟩ fun hS => ?_
 change wpAnyH _ _ _ _ _ 21 (Array.replicate 21 false) _ _
 refine z0x (i := 0) (some 37) (pT (some ⟨B, 0, none⟩)) rfl rfl (by kernel_rfl) (by kernel_rfl) (by kernel_rfl) (fun _ _ _ h => h) (by rfl) (fun W hW => ?_) hS ?_
 ·go_simp
 simp only [Act.put, siA, scZ, scS]
 refine z0x (i := 1) (some 38) (pT (some ⟨B, 0, none⟩)) rfl rfl (by kernel_rfl) (by kernel_rfl) (by kernel_rfl) (fun _ _ _ h => h) (by rfl) (fun W hW => ?_) hS ?_
 ·go_simp
 simp only [Act.put, siA, scZ, scS]
 refine z0x (i := 2) (some 39) (pT (some ⟨B, 2, none⟩)) rfl rfl (by kernel_rfl) (by kernel_rfl) (by kernel_rfl) (fun _ _ _ h => h) (by rfl) (fun W hW => ?_) hS ?_
 ·go_simp
 simp only [Act.put, siA, scZ, scS]
 refine z0x (i := 3) (some 40) (pT (some ⟨B, 2, none⟩)) rfl rfl (by kernel_rfl) (by kernel_rfl) (by kernel_rfl) (fun _ _ _ h => h) (by rfl) (fun W hW => ?_) hS ?_
 ·go_simp
 simp only [Act.put, siA, scZ, scS]
 refine z0x (i := 4) (some 41) (pT (some ⟨B, 3, none⟩)) rfl rfl (by kernel_rfl) (by kernel_rfl) (by kernel_rfl) (fun _ _ _ h => h) (by rfl) (fun W hW => ?_) hS ?_
 ·go_simp
 simp only [Act.put, siA, scZ, scS]
 refine z0x (i := 5) (some 42) (A F n0) rfl rfl (by kernel_rfl) (by kernel_rfl) (by kernel_rfl) (fun _ _ _ h => h) (by rfl) (fun W hW => ?_) hS ?_
 ·have y0 : W.cell? ⟨B, 3, none⟩ = some (A F n0) := (hW.1.at 3 (by decide)).trans HN0.out
  go_simp
 simp only [Act.put, siA, scZ, scS]
 refine z0x (i := 6) (some 43) (pT (some ⟨B, 0, none⟩)) rfl rfl (by kernel_rfl) (by kernel_rfl) (by kernel_rfl) (fun _ _ _ h => h) (by rfl) (fun W hW => ?_) hS ?_
 ·go_simp
 simp only [Act.put, siA, scZ, scS]
 refine z0x (i := 7) (some 44) (pT (some ⟨B, 0, none⟩)) rfl rfl (by kernel_rfl) (by kernel_rfl) (by kernel_rfl) (fun _ _ _ h => h) (by rfl) (fun W hW => ?_) hS ?_
 ·go_simp
 simp only [Act.put, siA, scZ, scS]
 refine z0x (i := 8) (some 45) (pT (some ⟨B, 91, none⟩)) rfl rfl (by kernel_rfl) (by kernel_rfl) (by kernel_rfl) (fun _ _ _ h => h) (by rfl) (fun W hW => ?_) hS ?_
 ·go_simp
 simp only [Act.put, siA, scZ, scS]
 refine z0x (i := 9) (some 46) (.agg #[A F (a.cel 0), A F (a.cel 1), A F (a.cel 2), A F (a.cel 3), A F (a.cel 4), A F (a.cel 5), A F (a.cel 6), A F (a.cel 7), A F (a.cel 8), A F (a.cel 9), A F (a.cel 10), A F (a.cel 11), A F (a.cel 12), A F (a.cel 13), A F (a.cel 14), A F (a.cel 15)]) rfl rfl (by kernel_rfl) (by kernel_rfl) (by kernel_rfl) (fun _ _ _ h => h) (by rfl) (fun W hW => ?_) hS ?_
 ·refine zTv (x := .tmp 45) W B m3 a hW.1 HA.out _ rfl ?_ ?_
  ·rfl
  ·rfl
 simp only [Act.put, siA, scZ, scS]
 refine z0x (i := 10) (some 47) (pT (some ⟨B, 0, none⟩)) rfl rfl (by kernel_rfl) (by kernel_rfl) (by kernel_rfl) (fun _ _ _ h => h) (by rfl) (fun W hW => ?_) hS ?_
 ·go_simp
 simp only [Act.put, siA, scZ, scS]
 refine z0x (i := 11) (some 48) (pT (some ⟨B, 0, none⟩)) rfl rfl (by kernel_rfl) (by kernel_rfl) (by kernel_rfl) (fun _ _ _ h => h) (by rfl) (fun W hW => ?_) hS ?_
 ·go_simp
 simp only [Act.put, siA, scZ, scS]
 refine z0x (i := 12) (some 49) (pT (some ⟨B, 108, none⟩)) rfl rfl (by kernel_rfl) (by kernel_rfl) (by kernel_rfl) (fun _ _ _ h => h) (by rfl) (fun W hW => ?_) hS ?_
 ·go_simp
 simp only [Act.put, siA, scZ, scS]
 refine z0x (i := 13) (some 50) (v3) rfl rfl (by kernel_rfl) (by kernel_rfl) (by kernel_rfl) (fun _ _ _ h => h) (by rfl) (fun W hW => ?_) hS ?_
 ·have y0 : W.cell? ⟨B, 108, none⟩ = some v3 := hW.1.outv.trans HV3.out
  obtain ⟨q1, q2, q3, hq⟩ := HSL.out
  subst hq
  go_simp
 simp only [Act.put, siA, scZ, scS]
 refine z0x (i := 14) (some 51) (pT (some ⟨B, 0, none⟩)) rfl rfl (by kernel_rfl) (by kernel_rfl) (by kernel_rfl) (fun _ _ _ h => h) (by rfl) (fun W hW => ?_) hS ?_
 ·go_simp
 simp only [Act.put, siA, scZ, scS]
 refine z0x (i := 15) (some 52) (pT (some ⟨B, 0, none⟩)) rfl rfl (by kernel_rfl) (by kernel_rfl) (by kernel_rfl) (fun _ _ _ h => h) (by rfl) (fun W hW => ?_) hS ?_
 ·go_simp
 simp only [Act.put, siA, scZ, scS]
 refine z0x (i := 16) (some 53) (pT (some ⟨B, 1, none⟩)) rfl rfl (by kernel_rfl) (by kernel_rfl) (by kernel_rfl) (fun _ _ _ h => h) (by rfl) (fun W hW => ?_) hS ?_
 ·go_simp
 simp only [Act.put, siA, scZ, scS]
 refine z0x (i := 17) (some 54) (A F (k : Int)) rfl rfl (by kernel_rfl) (by kernel_rfl) (by kernel_rfl) (fun _ _ _ h => h) (by rfl) (fun W hW => ?_) hS ?_
 ·have y0 : W.cell? ⟨B, 1, none⟩ = some (A F (k : Int)) := hW.1.steps.trans HK3.out
  go_simp
 simp only [Act.put, siA, scZ, scS]
 refine z0x (i := 18) (some 55) (.agg #[A F n0, A F (a.cel 0), A F (a.cel 1), A F (a.cel 2), A F (a.cel 3), A F (a.cel 4), A F (a.cel 5), A F (a.cel 6), A F (a.cel 7), A F (a.cel 8), A F (a.cel 9), A F (a.cel 10), A F (a.cel 11), A F (a.cel 12), A F (a.cel 13), A F (a.cel 14), A F (a.cel 15), v3, A F (k : Int)]) rfl rfl (by kernel_rfl) (by kernel_rfl) (by kernel_rfl) (fun _ _ _ h => h) (by rfl) (fun W hW => ?_) hS ?_
 ·obtain ⟨q1, q2, q3, hq⟩ := HSL.out
  subst hq
  go_simp
 simp only [Act.put, siA, scZ, scS]
 refine wpAnyH_ready (rs := [19]) (by kernel_rfl) (by simp) ?_
 have hone : (#[A F n0, A F (a.cel 0), A F (a.cel 1), A F (a.cel 2), A F (a.cel 3), A F (a.cel 4), A F (a.cel 5), A F (a.cel 6), A F (a.cel 7), A F (a.cel 8), A F (a.cel 9), A F (a.cel 10), A F (a.cel 11), A F (a.cel 12), A F (a.cel 13), A F (a.cel 14), A F (a.cel 15), v3, A F (k : Int)] : Array Value).all (·.oneCell') = true := by
  obtain ⟨q1, q2, q3, hq⟩ := HSL.out
  rw [hq]
  kernel_rfl
 have hA : RS2 B (w.heap.size + 1 + 1) m3 (w3.drew.setRow (w.heap.size + 1 + 1) #[A F n0, A F (a.cel 0), A F (a.cel 1), A F (a.cel 2), A F (a.cel 3), A F (a.cel 4), A F (a.cel 5), A F (a.cel 6), A F (a.cel 7), A F (a.cel 8), A F (a.cel 9), A F (a.cel 10), A F (a.cel 11), A F (a.cel 12), A F (a.cel 13), A F (a.cel 14), A F (a.cel 15), v3, A F (k : Int)]) := ⟨(setRow_other w3.drew _ B _ (fun e => hne e.symm)).trans hM3, _, rfl, setRow_heap w3.drew _ z10 _ _ _ HZ3.out⟩
 refine z5x (w3.drew.setRow (w.heap.size + 1 + 1) #[A F n0, A F (a.cel 0), A F (a.cel 1), A F (a.cel 2), A F (a.cel 3), A F (a.cel 4), A F (a.cel 5), A F (a.cel 6), A F (a.cel 7), A F (a.cel 8), A F (a.cel 9), A F (a.cel 10), A F (a.cel 11), A F (a.cel 12), A F (a.cel 13), A F (a.cel 14), A F (a.cel 15), v3, A F (k : Int)]) rfl rfl (by rfl) ?_ hA ?_ AllReadyH.nil
 ·exact z5w _ _ _ _ _ rfl rfl rfl HZ3.out rfl hone
 simp only [Act.put]
 refine z0x (i := 20) (some 9) (.nilIface) rfl rfl (by kernel_rfl) (by kernel_rfl) (by kernel_rfl) (fun _ _ _ h => h) (by rfl) (fun W hW => ?_) hA ?_
 ·go_simp
 simp only [Act.put, siA, scZ, scS]
 refine wpAnyH_done (by kernel_rfl) ?_ _
 go_wp2
 refine bodyPost_ret (v := .tuple #[.agg #[A F n0, A F (a.cel 0), A F (a.cel 1), A F (a.cel 2), A F (a.cel 3), A F (a.cel 4), A F (a.cel 5), A F (a.cel 6), A F (a.cel 7), A F (a.cel 8), A F (a.cel 9), A F (a.cel 10), A F (a.cel 11), A F (a.cel 12), A F (a.cel 13), A F (a.cel 14), A F (a.cel 15), v3, A F (k : Int)], .nilIface]) (z6y _ _ (w.heap.size + 1 + 1) #[A F n0, A F (a.cel 0), A F (a.cel 1), A F (a.cel 2), A F (a.cel 3), A F (a.cel 4), A F (a.cel 5), A F (a.cel 6), A F (a.cel 7), A F (a.cel 8), A F (a.cel 9), A F (a.cel 10), A F (a.cel 11), A F (a.cel 12), A F (a.cel 13), A F (a.cel 14), A F (a.cel 15), v3, A F (k : Int)] _ rfl rfl (setRow_heap w3.drew _ z10 _ _ _ HZ3.out) rfl) rfl ⟨v3, rfl, zBj HBW3.out.drew (by omega) _, ?_⟩
 have hL : L3 = a.out := by rw [<- HA.out]; rfl
 have hown : w3.ownsRow (B + 1) 2 1 m3.out L3.length (L3.map (Value.int .i64)) := HO3.out
 rw [HVV.out, hL] at hown
 exact zW9 hown (by have := HBe.out; omega) (by have := HBe.out; omega) _
end
section
open Go.ChangeShapes Go.WideShapes Go.ChangeAt Go.RowKit
structure Pg where
 id : Int
 rank : Int
 sl : Value
 xs : List St
 tab : Nat -> Int
def pg0 : Pg := ⟨0, 0, .slice none 0 0, [], fun _ => 0⟩
structure Gt where
 ps : List Pg
 last : Int
 evs : List (Nat -> Int)
 may : Int
 left : Int
structure Dsk where
 g : Nat -> Gt
 ran : Int
def zAi (p : Pg) (j : Nat) : Value := if j = 0 then A F p.id else if j = 1 then A F p.rank else if j = 2 then p.sl else A F (p.tab (j - 3))
def z2u (ps : List Pg) (last : Int) (i : Nat) : Value := if i < 152 then zAi (ps.getD (i / 19) pg0) (i % 19) else if i = 152 then A F (ps.length : Int) else A F last
def z58 (evs : List (Nat -> Int)) (i : Nat) : Value := A F (evs.getD (i / 8) (fun _ => 0) (i % 8))
def z1f (g : Gt) (i : Nat) : Value := if i < 154 then z2u g.ps g.last i else if i < 314 then z58 g.evs (i - 154) else if i = 314 then A F (g.evs.length : Int) else if i = 315 then A F g.may else A F g.left
def Dsk.cell (d : Dsk) (i : Nat) : Value := if i < 951 then z1f (d.g (i / 317)) (i % 317) else A F d.ran
def FnAt (w : World) (B : Nat) (f : Nat -> Value) : Prop := w.heap[B]? = some (cT (Array.ofFn (n := 952) fun i => f i.1) 93 (0, 0))
abbrev z0k (w : World) (B : Nat) (d : Dsk) : Prop := FnAt w B d.cell
def Dsk.put (d : Dsk) (k : Nat) (x : Gt) : Dsk := { d with g := fun i => if i = k then x else d.g i }
theorem z2l (d : Dsk) {k j : Nat} (hk : k < 3) (hj : j < 317) : d.cell (k * 317 + j) = z1f (d.g k) j := by
 unfold Dsk.cell
 rw [if_pos (by omega), show (k * 317 + j) / 317 = k by omega, show (k * 317 + j) % 317 = j by omega]
theorem zUp (d : Dsk) : d.cell 951 = A F d.ran := if_neg (by omega)
theorem z6l (d : Dsk) {k : Nat} (x : Gt) (hk : k < 3) (j : Nat) : (d.put k x).cell j = if k * 317 <= j /\ j < k * 317 + 317 then z1f x (j - k * 317) else d.cell j := by
 unfold Dsk.cell Dsk.put
 dsimp only
 by_cases h : j < 951
 ·rw [if_pos h, if_pos h]
  by_cases e : j / 317 = k
  ·rw [if_pos e, if_pos (by omega), show j % 317 = j - k * 317 by omega]
  ·rw [if_neg e, if_neg (by omega)]
 ·rw [if_neg h, if_neg h, if_neg (by omega)]
section
variable {w w' : World} {B : Nat} {f f' : Nat -> Value} {d : Dsk}
theorem FnAt.lt (h : FnAt w B f) : B < w.heap.size := (Array.getElem?_eq_some_iff.1 h).1
theorem FnAt.at (h : FnAt w B f) (i : Nat) (hi : i < 952) : w.cell? ⟨B, i, none⟩ = some (f i) := by
 rw [cell_of_row w B i _ _ _ h]
 simp [hi]
theorem FnAt.frozen (h : FnAt w B f) (i : Nat) : w.frozen? ⟨B, i, none⟩ = false := by
 have h' : w.heap[B]? = some (cT (Array.ofFn (n := 952) fun i => f i.1) 93 (0, 0)) := h
 simp [World.frozen?, h']
theorem FnAt.later (h : FnAt w B f) (hb : Below w.heap.size w w') : FnAt w' B f := (hb.block B h.lt).trans h
theorem FnAt.block (h : FnAt w B f) (hb : w'.heap[B]? = w.heap[B]?) : FnAt w' B f := hb.trans h
theorem FnAt.gate (h : z0k w B d) {k j : Nat} (hk : k < 3) (hj : j < 317) : w.cell? ⟨B, k * 317 + j, none⟩ = some (z1f (d.g k) j) := by
 rw [FnAt.at h _ (by omega), z2l d hk hj]
theorem FnAt.there (h : FnAt w B f) {o n : Nat} (hn : o + n <= 952) : w.there B o n := fun j hj => ⟨by rw [h.at _ (by omega)]; rfl, h.frozen _⟩
theorem FnAt.ext (h : FnAt w B f) (he : ∀ j, j < 952 -> f' j = f j) : FnAt w B f' := by
 suffices e : (Array.ofFn (n := 952) fun i => f' i.1) = (Array.ofFn (n := 952) fun i => f i.1) by
  unfold FnAt
  rw [e]
  exact h
 apply Array.ext
 ·simp
 ·intro j h1 h2
  simp only [Array.size_ofFn] at h1
  simp only [Array.getElem_ofFn]
  exact he j h1
theorem FnAt.set (h : FnAt w B f) (i : Nat) (v : Value) : FnAt (w.setCell ⟨B, i, none⟩ v) B fun j => if j = i then v else f j := by
 suffices e : (Array.ofFn (n := 952) fun i => f i.1).setIfInBounds i v = (Array.ofFn (n := 952) fun j => if j.1 = i then v else f j.1) by
  unfold FnAt
  rw [<- e]
  exact heap_setCell_same w B i _ _ v h
 apply Array.ext
 ·simp
 ·intro j h1 h2
  simp only [Array.size_ofFn] at h2
  rw [Array.getElem_setIfInBounds (by simpa using h2)]
  simp only [Array.getElem_ofFn]
  by_cases hj : i = j
  ·rw [if_pos hj, if_pos hj.symm]
  ·rw [if_neg hj, if_neg (fun e => hj e.symm)]
theorem FnAt.setCells (h : FnAt w B f) : ∀ (vs : List Value) (o : Nat), FnAt (w.setCells B o vs) B fun j => if o <= j /\ j < o + vs.length then vs.getD (j - o) undef else f j := by
 intro vs
 induction vs generalizing w f with
 | nil => intro o; exact FnAt.ext h fun j _ => by rw [if_neg (by rw [List.length_nil]; omega)]
 | cons v r ih =>
  intro o
  rw [World.setCells]
  refine FnAt.ext (ih (h.set o v) (o + 1)) fun j hj => ?_
  rw [List.length_cons]
  by_cases c : j = o
  ·subst c
   rw [if_pos ⟨Nat.le_refl _, by omega⟩, if_neg (by omega), if_pos rfl, Nat.sub_self]; rfl
  ·by_cases c2 : o + 1 <= j /\ j < o + 1 + r.length
   ·rw [if_pos c2, if_pos ⟨by omega, by omega⟩, show j - o = (j - (o + 1)) + 1 by omega]; rfl
   ·rw [if_neg c2, if_neg (by omega), if_neg c]
end
theorem z1a {w : World} {B k : Nat} (h : k ≠ B) : ∀ (vs : List Value) (o : Nat), (w.setCells B o vs).heap[k]? = w.heap[k]? := by
 intro vs
 induction vs generalizing w with
 | nil => intro o; rfl
 | cons v r ih => intro o; rw [World.setCells, ih]; exact heap_setCell_other _ _ _ _ h
theorem z5c (B : Nat) : ∀ (vs : List Value) (o : Nat) (w : World), (w.setCells B o vs).heap.size = w.heap.size /\ (w.setCells B o vs).os = w.os /\ (w.setCells B o vs).tape = w.tape /\ (w.setCells B o vs).output = w.output := by
 intro vs
 induction vs with
 | nil => intro o w; exact ⟨rfl, rfl, rfl, rfl⟩
 | cons v r ih => intro o w; rw [World.setCells]; obtain ⟨h1, h2, h3, h4⟩ := ih (o + 1) (w.setCell ⟨B, o, none⟩ v); exact ⟨h1.trans (by simp), h2, h3, h4⟩
theorem z2a {w w1 : World} {B : Nat} (h : Kept B w w1) (o : Nat) (vs : List Value) : Kept B w (w1.setCells B o vs) := by
 obtain ⟨h1, h2, h3, h4⟩ := z5c B vs o w1
 exact ⟨h2.trans h.os, h3.trans h.tape, h4.trans h.output, by rw [h1]; exact h.size, fun k hk hne => (z1a (fun e => hne (by rw [e])) vs o).trans (h.block k hk hne)⟩
end
end Go.Proofs.YtbimlalhodibjaaGreatDoor
