/-
  What the document's step does to a program that runs: by the plain machine. Conditions: the step is a right one; numbers are of 64 bits.
-/
import Derived.Test.YtegeiicginpdbaaDoorDocSt1
import Derived.Test.YtegeiicginpdbaaDoorDocSt2
import Derived.Test.YtegeiicginpdbaaDoorDocSt3
import Derived.Test.YtegeiicginpdbaaDoorDocSt4
import Derived.Test.YtegeiicginpdbaaDoorDocSt5
namespace Go.Proofs.YtegeiicginpdbaaDoor
open Go.ChangeShapes Go.WideShapes Go.ChangeAt Go.RowKit
theorem kd_t (k : Int) : (kd k == 116) = (k == 2) := by
  unfold kd
  by_cases h0 : k = 0
  · rw [if_pos h0, h0]; rfl
  by_cases h1 : k = 1
  · rw [if_neg h0, if_pos h1, h1]; rfl
  by_cases h2 : k = 2
  · rw [if_neg h0, if_neg h1, if_pos h2, h2]; rfl
  have : (k == 2) = false := by simpa using h2
  rw [if_neg h0, if_neg h1, if_neg h2, this]
  split <;> rfl
theorem kd_f (k : Int) : (kd k == 102) = (k == 3) := by
  unfold kd
  by_cases h0 : k = 0
  · rw [if_pos h0, h0]; rfl
  by_cases h1 : k = 1
  · rw [if_neg h0, if_pos h1, h1]; rfl
  by_cases h2 : k = 2
  · rw [if_neg h0, if_neg h1, if_pos h2, h2]; rfl
  by_cases h3 : k = 3
  · rw [if_neg h0, if_neg h1, if_neg h2, if_pos h3, h3]; rfl
  have : (k == 3) = false := by simpa using h3
  rw [if_neg h0, if_neg h1, if_neg h2, if_neg h3, this]; rfl
theorem kd_c {k : Int} (h : k = 4) : (kd k == 99) = true := by rw [h]; rfl
theorem kd_c3 {k : Int} (h : k = 3) : (kd k == 99) = false := by rw [h]; rfl
theorem bne_of {a b : Int} {t : Bool} (h : (a == b) = t) : (a != b) = !t := by rw [← h]; rfl
theorem putReg_putReg (m : Dox) (d : Nat) (x y : Val) : (m.putReg d x).putReg d y = m.putReg d y := by
  unfold Dox.putReg
  congr 1
  funext i
  show (if i = d then y else if i = d then x else m.reg i) = if i = d then y else m.reg i
  split <;> rfl
theorem lose6 (m : Dox) (x : Val) (L : List Int) : ((m.putReg 0 x).loseTo 6).abs L = ((m.abs L).lose).putReg 0 x := by
  unfold Dox.loseTo Dox.putReg Dox.abs Abs.lose Abs.putReg
  congr 1
  funext i
  show (if 1 ≤ i ∧ i < 6 then none0 else if i = 0 then x else m.reg i) = if i = 0 then x else if 1 ≤ i ∧ i ≤ 5 then none0 else m.reg i
  by_cases h : i = 0
  · rw [if_neg (by omega), if_pos h, if_pos h]
  · rw [if_neg h, if_neg h]
    by_cases h1 : 1 ≤ i ∧ i < 6
    · rw [if_pos h1, if_pos (by omega)]
    · rw [if_neg h1, if_neg (by omega)]
section
variable {B d s pc : Nat} {c o n : Int} {r : Bool} {m : Dox} {L : List Int} {w : World}
theorem dcall_all (hn : n = 1 ∨ n = 2 ∨ n = 3) (hM : DoxAt w B m) (hO : OutAt w B m.out L) :
    Calls Tryd.prog 83 #[.pointer (some ⟨B, 0, none⟩), .int .i64 n] w fun e w' => e = .returned (.int .i64 (callF (m.abs L) n).1) ∧ DRes B w w' m (callF (m.abs L) n).1 (callF (m.abs L) n).2 := by
  rcases h1 : m.reg 1 with ⟨fk, fn, fc⟩
  have h1' : (m.abs L).reg 1 = ⟨fk, fn, fc⟩ := h1
  unfold callF
  rw [h1']
  have hwant : ∀ {P : Prop}, (wantF ⟨fk, fn, fc⟩ = 8 → fk = 0 → P) → (wantF ⟨fk, fn, fc⟩ = 0 → fk ≠ 0 → fk = 1 → P) → (wantF ⟨fk, fn, fc⟩ = 1 → fk ≠ 0 → fk ≠ 1 → P) → P := by
    intro P a b c
    by_cases h0 : fk = 0
    · exact a (if_pos h0) h0
    by_cases h1 : fk = 1
    · exact b (by unfold wantF; rw [if_neg h0, if_pos h1]) h0 h1
    · exact c (by unfold wantF; rw [if_neg h0, if_neg h1]) h0 h1
  rcases hn with rfl | rfl | rfl
  · refine hwant (fun hw h0 => ?_) (fun hw h0 h1k => ?_) (fun hw h0 h1k => ?_)
    · rw [if_pos ⟨by decide, by rw [hw]; decide⟩, hw]
      exact (dcall_none1 B m L fk fn fc h1 (by rw [kd_0]; simpa using h0) w hM hO).mono fun e w' ⟨he, hb⟩ => ⟨he, DRes.of_below hM hO hb fun h => absurd h (by simp)⟩
    · rw [if_neg (by simp [hw]), if_pos rfl]
      have x0 : (kd fk == 0) = false := by rw [kd_0]; simpa using h0
      have x1 : (kd fk != 110) = false := by rw [bne_of (kd_n fk)]; simpa using h1k
      unfold foundF
      by_cases hl : fn < 0
      · rw [if_pos (Or.inl hl)]
        exact (dcall_low B m L fk fn fc h1 x0 x1 (by simpa using hl) w hM hO).mono fun e w' ⟨he, hb, hm, ho⟩ => ⟨he, hb, _, L, hm, ho, rfl, fun _ => lose6 m _ L⟩
      by_cases hh : 4 ≤ fn
      · rw [if_pos (Or.inr hh)]
        exact (dcall_high B m L fk fn fc h1 x0 x1 (by simpa using hl) (by simpa using hh) w hM hO).mono fun e w' ⟨he, hb, hm, ho⟩ => ⟨he, hb, _, L, hm, ho, rfl, fun _ => lose6 m _ L⟩
      · rw [if_neg (show ¬ (fn < 0 ∨ 4 ≤ fn) by omega)]
        exact (dcall_found B m L fk fn fc h1 x0 x1 (by simpa using hl) (by simpa using hh) w hM hO).mono fun e w' ⟨he, hb, hm, ho⟩ => ⟨he, hb, _, L, hm, ho, rfl, fun _ => by rw [putReg_putReg]; exact lose6 m _ L⟩
    · rw [if_pos ⟨by decide, by rw [hw]; decide⟩, hw]
      exact (dcall_arg1 B m L fk fn fc h1 (by rw [kd_0]; simpa using h0) (by rw [bne_of (kd_n fk)]; simpa using h1k) w hM hO).mono fun e w' ⟨he, hb⟩ => ⟨he, DRes.of_below hM hO hb fun h => absurd h (by simp)⟩
  · rw [if_neg (by simp), if_neg (by decide), if_pos rfl]
    exact (dcall_time B m L fk fn fc h1 w hM hO).mono fun e w' ⟨he, hb, hm, ho⟩ => ⟨he, hb, _, L, hm, ho, rfl, fun _ => by rw [putReg_putReg]; exact lose6 m _ L⟩
  · refine hwant (fun hw h0 => ?_) (fun hw h0 h1k => ?_) (fun hw h0 h1k => ?_)
    · rw [if_pos ⟨by decide, by rw [hw]; decide⟩, hw]
      exact (dcall_none3 B m L fk fn fc h1 (by rw [kd_0]; simpa using h0) w hM hO).mono fun e w' ⟨he, hb⟩ => ⟨he, DRes.of_below hM hO hb fun h => absurd h (by simp)⟩
    · rw [if_neg (by simp [hw]), if_neg (by decide), if_neg (by decide)]
      have x0 : (kd fk == 0) = false := by rw [kd_0]; simpa using h0
      have x1 : (kd fk != 110) = false := by rw [bne_of (kd_n fk)]; simpa using h1k
      by_cases hL : L.length < 50
      · exact (dcall_emit B m L fk fn fc h1 x0 x1 hL w hM hO).mono fun e w' ⟨he, hb, v', hm, ho⟩ => ⟨he, hb, _, L ++ [fn], hm, ho, rfl, fun _ => by
          have e1 := lose6 (m.setOut v') ⟨1, 0, 0⟩ (L ++ [fn])
          show (((m.setOut v').putReg 0 ⟨1, 0, 0⟩).loseTo 6).abs (L ++ [fn]) = _
          rw [e1]
          unfold Abs.give
          rw [show ((m.abs L).lose).out = L from rfl, if_pos hL]
          rfl⟩
      · exact (dcall_full B m L fk fn fc h1 x0 x1 (by omega) w hM hO).mono fun e w' ⟨he, hb, hm, ho⟩ => ⟨he, hb, _, L, hm, ho, rfl, fun _ => by
          rw [lose6]
          unfold Abs.give
          rw [show ((m.abs L).lose).out = L from rfl, if_neg hL]
          rfl⟩
    · rw [if_pos ⟨by decide, by rw [hw]; decide⟩, hw]
      exact (dcall_arg3 B m L fk fn fc h1 (by rw [kd_0]; simpa using h0) (by rw [bne_of (kd_n fk)]; simpa using h1k) w hM hO).mono fun e w' ⟨he, hb⟩ => ⟨he, DRes.of_below hM hO hb fun h => absurd h (by simp)⟩
theorem dcounts_all (hd : d < 11) (y : Val) (hok : (m.abs L).Ok) (hy : y.Ok) (_ : 1 ≤ c ∧ c ≤ 13) (hM : DoxAt w B m) (hO : OutAt w B m.out L) :
    Calls Tryd.prog 84 #[.pointer (some ⟨B, 0, none⟩), .int .i64 c, .pointer (some ⟨B, d * 3, none⟩), .agg #[.int .u8 (kd y.k), .int .i64 y.n, .int .i64 y.c]] w fun e w' => e = .returned (.int .i64 (makesF c (m.reg d) y).2) ∧ DRes B w w' m (makesF c (m.reg d) y).2 ((m.abs L).putReg d (makesF c (m.reg d) y).1) := by
  have hx : (m.reg d).Ok := hok.reg d hd
  rcases h1 : m.reg d with ⟨xk, xn, xc⟩
  rw [h1] at hx
  obtain ⟨yk, yn, yc⟩ := y
  have hd27 : d < 27 := by omega
  have hv : m.v d = ⟨xk, xn, xc⟩ := (m.v_reg hd).trans h1
  have px : In64 xn := hx.n
  have py : In64 yn := hy.n
  have fin : ∀ {E : Ending} {w' : World} {z : Val}, E = .returned (.int .i64 0) ∧ Kept B w w' ∧ DoxAt w' B (m.putV d z) → E = .returned (.int .i64 0) ∧ DRes B w w' m 0 ((m.abs L).putReg d z) := fun {E w' z} ⟨he, hk, hm⟩ => ⟨he, DRes.of_kept (m' := m.putReg d z) hM hO hk ((m.putV_reg hd z) ▸ hm) rfl rfl fun _ => rfl⟩
  have err : ∀ {E : Ending} {w' : World} {e : Int} {a : Abs}, e ≠ 0 → E = .returned (.int .i64 e) ∧ Below w.heap.size w w' → E = .returned (.int .i64 e) ∧ DRes B w w' m e a := fun h0 ⟨he, hb⟩ => ⟨he, DRes.of_below hM hO hb fun h => absurd h h0⟩
  unfold makesF
  show Calls Tryd.prog _ #[_, _, _, .agg #[.int .u8 (kd yk), .int .i64 yn, .int .i64 yc]] w _
  by_cases h0 : yk = 0
  · rw [if_pos (Or.inl h0)]
    exact (counts_no1 B d c xk xn xc yk yn yc m hd27 hv (by rw [kd_0]; simpa using h0) w hM).mono fun e w' h => err (by decide) h
  have y0 : (kd yk == 0) = false := by rw [kd_0]; simpa using h0
  by_cases h2 : c = 1
  · rw [if_neg (by simp [h0, h2]), if_pos h2]
    by_cases hx0 : xk = 0
    · exact (counts_mov1 B d c xk xn xc yk yn yc m hd27 hv y0 (by rw [kd_0]; simpa using hx0) (by simp [h2]) (by simpa using h2) w hM).mono fun e w' h => fin h
    · exact (counts_mov2 B d c xk xn xc yk yn yc m hd27 hv y0 (by rw [kd_0]; simpa using hx0) (by simpa using h2) w hM).mono fun e w' h => fin h
  by_cases hx0 : xk = 0
  · rw [if_pos (Or.inr ⟨hx0, h2⟩)]
    exact (counts_no2 B d c xk xn xc yk yn yc m hd27 hv y0 (by rw [kd_0]; simpa using hx0) (by simpa using h2) w hM).mono fun e w' h => err (by decide) h
  have x0 : (kd xk == 0) = false := by rw [kd_0]; simpa using hx0
  have c1 : (c == 1) = false := by simpa using h2
  rw [if_neg (by simp [h0, hx0]), if_neg h2]
  by_cases h3 : yk = 1
  · have y1 : (kd yk == 110) = true := by rw [kd_n]; simpa using h3
    by_cases h4 : xk = 1
    · rw [if_pos ⟨h3, Or.inl h4⟩]
      exact (counts_nums B d c xk xn xc yk yn yc m hd27 hv y0 x0 c1 (by rw [kd_n]; simpa using h4) y1 px.1 px.2 py.1 py.2 w hM).mono fun e w' h => fin h
    have x1 : (kd xk == 110) = false := by rw [kd_n]; simpa using h4
    by_cases h5 : c = 2
    · rw [if_pos ⟨h3, Or.inr (Or.inl h5)⟩, h5, doesV_2, ← h5]
      exact (counts_padd B d c xk xn xc yk yn yc m hd27 hv y0 x0 c1 x1 y1 (by simpa using h5) w hM).mono fun e w' h => fin h
    by_cases h6 : c = 3
    · rw [if_pos ⟨h3, Or.inr (Or.inr h6)⟩, h6, doesV_3, ← h6]
      exact (counts_psub B d c xk xn xc yk yn yc m hd27 hv y0 x0 c1 x1 y1 (by simpa using h5) (by simpa using h6) w hM).mono fun e w' h => fin h
    · rw [if_neg (by simp [h4, h5, h6]), if_neg (by simp [h4])]
      exact (counts_arg4 B d c xk xn xc yk yn yc m hd27 hv y0 x0 c1 x1 y1 (by simpa using h5) (by simpa using h6) w hM).mono fun e w' h => err (by decide) h
  have y1 : (kd yk == 110) = false := by rw [kd_n]; simpa using h3
  rw [if_neg (by simp [h3])]
  by_cases h4 : xk = 1
  · have x1 : (kd xk == 110) = true := by rw [kd_n]; simpa using h4
    by_cases h5 : c = 2
    · rw [if_pos ⟨h4, h5⟩, h5, doesV_2, ← h5, Int.add_comm xn yn]
      exact (counts_addn B d c xk xn xc yk yn yc m hd27 hv y0 x0 c1 x1 y1 (by simpa using h5) w hM).mono fun e w' h => fin h
    · rw [if_neg (by simp [h5])]
      exact (counts_arg1 B d c xk xn xc yk yn yc m hd27 hv y0 x0 c1 x1 y1 (by simpa using h5) w hM).mono fun e w' h => err (by decide) h
  have x1 : (kd xk == 110) = false := by rw [kd_n]; simpa using h4
  rw [if_neg (by simp [h4])]
  by_cases h5 : c = 2
  · exact (counts_arg2 B d c xk xn xc yk yn yc m hd27 hv y0 x0 c1 x1 y1 (by simpa using h5) w hM).mono fun e w' h => err (by decide) h
  · exact (counts_arg3 B d c xk xn xc yk yn yc m hd27 hv y0 x0 c1 x1 y1 (by simpa using h5) w hM).mono fun e w' h => err (by decide) h
end
end Go.Proofs.YtegeiicginpdbaaDoor
