/-
  How a program goes on from step to step to its end: by the plain machine. Conditions: every step is a right one; numbers are of 64 bits.
-/
import Derived.Test.YtegeiicginpdbaaDoorMachDo
import Derived.Test.YtegeiicginpdbaaDoorMachRight
namespace Go.Proofs.YtegeiicginpdbaaDoor
open Go.ChangeShapes Go.WideShapes Go.ChangeAt Go.RowKit
attribute [local simp] drew_size drewN_size setCell_size
/-- What came of a program, as it lies in memory. -/
def Gone (B : Nat) (w w' : World) (X : End) (E : Int) : Prop :=
  Below B w w' ∧ ∃ m' L', MacAt w' B m' ∧ OutAt w' B m'.out L' ∧
    match X with
    | .inl (e, p) => E = e ∧ E ≠ 0 ∧ m'.step = (p : Int)
    | .inr (n, k, a) => E = 0 ∧ m'.steps = (k : Int) ∧ m'.abs L' = a ∧ n = (a.reg 0).n
def stepOf (B : Nat) (w : World) : Nat := (intOf ((w.cell? ⟨B, 0, none⟩).getD (.int .i64 0))).toNat
theorem StepsAt.under {w wr : World} {B bk off len : Nat} {C D S : Nat → Int} {R : Nat → Bool} {O N : Nat → Int} (h : StepsAt w bk off len C D S R O N) (hb : Below B w wr) (hbk : bk < B) : StepsAt wr bk off len C D S R O N := by
  intro i hi
  obtain ⟨a, b, c, d, e, f⟩ := h i hi
  exact ⟨(hb.cell (p := ⟨bk, _, none⟩) hbk).trans a, (hb.cell (p := ⟨bk, _, none⟩) hbk).trans b, (hb.cell (p := ⟨bk, _, none⟩) hbk).trans c, (hb.cell (p := ⟨bk, _, none⟩) hbk).trans d, (hb.cell (p := ⟨bk, _, none⟩) hbk).trans e, (hb.cell (p := ⟨bk, _, none⟩) hbk).trans f⟩
theorem stepOf_at {B : Nat} {w : World} {m : Mac} (h : MacAt w B m) : stepOf B w = m.step.toNat := by unfold stepOf; rw [h.step]; rfl
section
variable (B bk off len cap : Nat) (C D S O N : Nat → Int) (R : Nat → Bool)
set_option maxHeartbeats 4000000 in
set_option maxRecDepth 100000 in
theorem goOn_all (m : Mac) (L : List Int) (w : World) (hM : MacAt w B m) (hO : OutAt w B m.out L) (hok : (m.abs L).Ok) (hst : StepsAt w bk off len C D S R O N) (hbk : bk < B) (hlen : len ≤ 200) (h1 : 1 ≤ len) (hR : ∀ k, k < len → faultAt len C D S R O N k = 0) (hN : ∀ k, k < len → In64 (N k)) (h0 : m.step = 0) (h00 : m.steps = 0) :
    Calls Tryd.prog 63 #[.pointer (some ⟨B, 0, none⟩), .slice (some ⟨bk, off, none⟩) len cap] w fun e w' => ∃ E, e = .returned (.int .i64 E) ∧ Gone B w w' (runF C D S R O N len 0 0 (m.abs L)) E := by
  obtain ⟨X, hX⟩ : ∃ X, runF C D S R O N len 0 0 (m.abs L) = X := ⟨_, rfl⟩
  rw [hX]
  have HX : Hid (runF C D S R O N len 0 0 (m.abs L) = X) := hX
  have HST : Hid (StepsAt w bk off len C D S R O N) := hst
  have HR : Hid (∀ k, k < len → faultAt len C D S R O N k = 0) := hR
  have HN : Hid (∀ k, k < len → In64 (N k)) := hN
  have HS : Hid (m.step = 0 ∧ m.steps = 0) := ⟨h0, h00⟩
  have HO : Hid (OutAt w B m.out L) := hO
  clear hX hst hR hN h0 h00 hO
  go_enter Tryd.func63, Tryd.ntmps63
  go_wp2_with fail
  go_loopw [4] (fun _ wr => ∃ (pc k : Nat) (m1 : Mac) (L1 : List Int), Hid (pc < len ∧ k ≤ pc ∧ Below B w wr ∧ MacAt wr B m1 ∧ OutAt wr B m1.out L1 ∧ (m1.abs L1).Ok ∧ m1.step = (pc : Int) ∧ m1.steps = (k : Int) ∧ runF C D S R O N len pc k (m1.abs L1) = X)) (fun _ wr => len - stepOf B wr)
  case atStart => exact ⟨0, 0, m, L, by omega, Nat.le_refl _, Below.refl _ _, hM, HO.out, hok, HS.out.1, HS.out.2, HX.out⟩
  case round =>
    obtain ⟨pc, k, m1, L1, H⟩ := hrel
    have hpc := H.out.1
    have hkp := H.out.2.1
    have hb := H.out.2.2.1
    have hM1 := H.out.2.2.2.1
    have hok1 := H.out.2.2.2.2.2.1
    have hB := hM1.lt
    have q0 := hM1.step
    have q1 := hM1.steps
    rw [H.out.2.2.2.2.2.2.1] at q0
    rw [H.out.2.2.2.2.2.2.2.1] at q1
    have f0 := hM1.frozen 0
    have f1 := hM1.frozen 1
    obtain ⟨g0, g1, g2, g3, g4, g5⟩ := HST.out.under hb hbk pc hpc
    have hr := right_of (HR.out pc hpc)
    have hn := HN.out pc hpc
    have HH : Hid (runF C D S R O N len pc k (m1.abs L1) = X) := H.out.2.2.2.2.2.2.2.2
    have HO1 : Hid (OutAt wr B m1.out L1) := H.out.2.2.2.2.1
    have e3 : m1.step = (pc : Int) := H.out.2.2.2.2.2.2.1
    have E3 : Hid (m1.step = (pc : Int)) := e3
    clear e3
    have HP : Hid (m1.steps = (k : Int)) := H.out.2.2.2.2.2.2.2.1
    obtain ⟨d, hd⟩ := Int.eq_ofNat_of_zero_le hr.d1
    obtain ⟨s, hs⟩ := Int.eq_ofNat_of_zero_le hr.s1
    have hd11 : d < 11 := by have := hr.d2; omega
    have hs11 : s < 11 := by have := hr.s2; omega
    rcases hD : doF (C pc) (D pc) (S pc) (R pc) (O pc) (N pc) ((m1.setSteps ((k : Int) + 1)).abs L1) with ⟨of, er, a2⟩
    have hofs := doF_off hr hpc
    have HD0 : Hid (doF (C pc) (D pc) (S pc) (R pc) (O pc) (N pc) (m1.abs L1) = (of, er, a2)) := hD
    have HX1 : Hid (C pc = 28 → (wantF (m1.reg 0) = 0 → X = .fine (m1.reg 0).n (k + 1) (m1.abs L1)) ∧ (wantF (m1.reg 0) ≠ 0 → X = .bad (wantF (m1.reg 0)) pc)) := fun h => ⟨fun hw => HH.out.symm.trans (runF_exit hpc h hw), fun hw => HH.out.symm.trans (runF_exit_bad hpc h hw)⟩
    have HX2 : Hid (C pc ≠ 28 → (er ≠ 0 → X = .bad er pc) ∧ (er = 0 → runF C D S R O N len (pc + 1 + of.toNat) (k + 1) a2 = X)) := fun h => ⟨fun hw => by
      have := runF_bad (k := k) (a := m1.abs L1) (R := R) (D := D) (S := S) (O := O) (N := N) hpc h (by rw [HD0.out]; exact hw)
      rw [HD0.out] at this
      exact HH.out.symm.trans this, fun hw => by
      have := runF_go (k := k) (a := m1.abs L1) (R := R) (D := D) (S := S) (O := O) (N := N) hpc h (by rw [HD0.out]; exact hw)
      rw [HD0.out] at this
      exact this.symm.trans HH.out⟩
    have HOF : Hid (C pc ≠ 28 → 0 ≤ of ∧ (pc : Int) + 1 + of < len) := fun h => by have := hofs h (m1.abs L1); rw [HD0.out] at this; exact this
    have HOK : Hid (C pc ≠ 28 → a2.Ok) := fun h => by have := doF_ok hok1 hr.c1 hr.c2 h hr.d1 hr.d2 hr.s1 hr.s2 hn (r := R pc) (o := O pc); rw [HD0.out] at this; exact this
    have c1 := hr.c1
    have c2 := hr.c2
    have H27 : Hid (C pc = 27 → N pc = 1 ∨ N pc = 2 ∨ N pc = 3) := hr.call
    rw [hd, hs] at hD
    rw [hd] at g1
    rw [hs] at g2
    clear hofs HD0 hd hs H hr HH
    generalize C pc = c at *
    generalize R pc = r at *
    generalize O pc = o at *
    generalize N pc = n at *
    have HD : Hid (doF c (d : Int) (s : Int) r o n ((m1.setSteps ((k : Int) + 1)).abs L1) = (of, er, a2)) := hD
    have HNN : Hid (In64 n) := hn
    clear hD hn HX HS HO hM hok h1
    have hk0 : (0 : Int) ≤ (k : Int) := by omega
    have hk1 : (k : Int) ≤ 200 := by omega
    have hp0 : (0 : Int) ≤ (pc : Int) := by omega
    have hp1 : (pc : Int) < len := by omega
    have hp2 : (pc : Int) ≤ 200 := by omega
    by_cases hc : c = 28
    · have x28 : (c == 28) = true := by simpa using hc
      have HX3 : Hid ((wantF (m1.reg 0) = 0 → X = .fine (m1.reg 0).n (k + 1) (m1.abs L1)) ∧ (wantF (m1.reg 0) ≠ 0 → X = .bad (wantF (m1.reg 0)) pc)) := HX1.out hc
      obtain ⟨r0, r1, r2⟩ := hM1.reg (d := 0) (by decide)
      simp only [Nat.reduceMul, Nat.reduceAdd] at r0 r1 r2
      clear hc c1 c2
      go_wp2_with (first
        | (go_at_call 85; refine (want_any (m1.reg 0).k (m1.reg 0).n (m1.reg 0).c _).mono ?_; rintro e w2 ⟨rfl, hb2⟩)
        | fail)
      go_ret
      have hMW := ((hM1.putSteps ((k : Int) + 1)).alloc _).later hb2
      have hKW : Kept B wr w2 := kept_later (kept_alloc (kept_set (kept_refl B wr) _ _) _) hb2
      refine ⟨wantF ⟨(m1.reg 0).k, (m1.reg 0).n, (m1.reg 0).c⟩, rfl, hb.trans (kept_under hKW hB), _, L1, hMW, HO1.out.kept hKW, ?_⟩
      by_cases hw : wantF (m1.reg 0) = 0
      · rw [HX3.out.1 hw]
        exact ⟨hw, rfl, rfl, rfl⟩
      · rw [HX3.out.2 hw]
        exact ⟨rfl, hw, E3.out⟩
    · have x28 : (c == 28) = false := by simpa using hc
      have HX3 : Hid ((er ≠ 0 → X = .bad er pc) ∧ (er = 0 → runF C D S R O N len (pc + 1 + of.toNat) (k + 1) a2 = X)) := HX2.out hc
      have HOK3 : Hid a2.Ok := HOK.out hc
      have hof := HOF.out hc
      have HC28 : Hid (c ≠ 28) := hc
      obtain ⟨j, rfl⟩ := Int.eq_ofNat_of_zero_le hof.1
      have hj0 : (0 : Int) ≤ (j : Int) := by omega
      have hj1 : (pc : Int) + 1 + (j : Int) < len := hof.2
      have hlen2 : (len : Int) ≤ 200 := by omega
      have HOW : Hid (∀ Z : Obj, OutAt ((wr.setCell ⟨B, 1, none⟩ (.int .i64 ((k : Int) + 1))).alloc Z) B m1.out L1) := fun Z => HO1.out.kept (kept_alloc (kept_set (kept_refl B wr) _ _) _)
      clear hc hof HX1 HX2 HOF HOK
      by_cases he : er = 0
      · subst he
        go_wp2_with (first
          | (go_at_call 86; refine (do_all B d s c o n r (m1.setSteps ((k : Int) + 1)) L1 hd11 hs11 _ ((hM1.putSteps ((k : Int) + 1)).alloc _) (HOW.out _) hok1 HNN.out c1 c2 HC28.out H27.out).mono ?_; rintro e w2 ⟨rfl, hr2⟩; rw [HD.out] at hr2 ⊢; dsimp only at hr2 ⊢; obtain ⟨hb2, m2, L2, hM2, hO2, e1, e2, ea⟩ := hr2; have HO2 : Hid (OutAt w2 B m2.out L2) := hO2; have HE : Hid (m2.steps = (k : Int) + 1 ∧ m2.abs L2 = a2) := ⟨e2, ea rfl⟩; have y0 := hM2.step; have y1 := hM2.frozen 0; rw [e1] at y0; change w2.cell? ⟨B, 0, none⟩ = some (.int .i64 m1.step) at y0; rw [E3.out] at y0; have hB2 := hM2.lt; clear hO2 e1 e2 ea)
          | fail)
        go_roundw
        case rel =>
          have hbw2 : Below B w w2 := (hb.trans (kept_under (kept_alloc (kept_set (kept_refl B wr) _ _) _) hB)).trans hb2
          have ha2 : m2.abs L2 = a2 := HE.out.2
          have hrun := HX3.out.2 rfl
          rw [Int.toNat_natCast, ← ha2] at hrun
          refine ⟨pc + 1 + j, k + 1, m2.setStep ((pc : Int) + (1 + (j : Int))), L2, by omega, by omega, ?_, hM2.putStep _, HO2.out.kept (kept_set (kept_refl B w2) _ _), ?_, ?_, ?_, hrun⟩
          · have hr : B ≤ (⟨B, 0, none⟩ : Addr).block := Nat.le_refl _
            exact hbw2.setCell hr _
          · have := HOK3.out
            rw [← ha2] at this
            exact this
          · show (pc : Int) + (1 + (j : Int)) = ((pc + 1 + j : Nat) : Int)
            omega
          · show m2.steps = ((k + 1 : Nat) : Int)
            rw [HE.out.1]; omega
        case measure =>
          rw [stepOf_at hM1, stepOf_at (hM2.putStep ((pc : Int) + (1 + (j : Int)))), E3.out]
          show len - ((pc : Int) + (1 + (j : Int))).toNat < len - (pc : Int).toNat
          omega
      · have he2 : (er != 0) = true := by simpa using he
        have HER : Hid (er ≠ 0) := he
        clear he
        go_wp2_with (first
          | (go_at_call 86; refine (do_all B d s c o n r (m1.setSteps ((k : Int) + 1)) L1 hd11 hs11 _ ((hM1.putSteps ((k : Int) + 1)).alloc _) (HOW.out _) hok1 HNN.out c1 c2 HC28.out H27.out).mono ?_; rintro e w2 ⟨rfl, hr2⟩; rw [HD.out] at hr2 ⊢; dsimp only at hr2 ⊢; have HR2 : Hid (Res B _ w2 (m1.setSteps ((k : Int) + 1)) er a2) := hr2; clear hr2)
          | fail)
        go_ret
        obtain ⟨hb2, m2, L2, hM2, hO2, e1, e2, ea⟩ := HR2.out
        refine ⟨er, rfl, (hb.trans (kept_under (kept_alloc (kept_set (kept_refl B wr) _ _) _) hB)).trans hb2, m2, L2, hM2, hO2, ?_⟩
        rw [HX3.out.1 HER.out]
        exact ⟨rfl, HER.out, e1.trans E3.out⟩
end
end Go.Proofs.YtegeiicginpdbaaDoor
