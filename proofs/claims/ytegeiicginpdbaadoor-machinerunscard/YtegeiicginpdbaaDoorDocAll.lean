/-
  What the document's step does, any right one: by the plain machine. Conditions: the step is a right one; numbers are of 64 bits.
-/
import Derived.Test.YtegeiicginpdbaaDoorDocRes
namespace Go.Proofs.YtegeiicginpdbaaDoor
open Go.ChangeShapes Go.WideShapes Go.ChangeAt Go.RowKit
theorem wordF_no {p : Val} {o t E : Int} (h : reachF p o = (t, E)) (hE : E ≠ 0) : wordF p o = (0, E) := by unfold wordF; rw [h]; exact if_pos hE
theorem wordF_in {p : Val} {o t : Int} (h : reachF p o = (t, 0)) (hk : p.k ≠ 3) : wordF p o = (t, 0) := by unfold wordF; rw [h, if_neg (by simp), if_neg hk]
theorem wordF_slot {p : Val} {o t : Int} (h : reachF p o = (t, 0)) (hk : p.k = 3) : wordF p o = (t - 16, 0) := by unfold wordF; rw [h, if_neg (by simp), if_pos hk]
section
variable {B d s pc : Nat} {c o n : Int} {r : Bool} {m : Dox} {L : List Int} {w : World}
theorem dask_all (hd : d < 11) (hs : s < 11) (hpc : pc ≤ 200) (hc1 : 15 ≤ c) (hc2 : c ≤ 24) (o0 : 0 ≤ o) (o1 : o ≤ 200) (hM : DoxAt w B m) :
    Calls Tryd.prog 61 #[.pointer (some ⟨B, 0, none⟩), .agg #[.int .i64 c, .int .i64 d, .int .i64 s, .bool r, .int .i64 o, .int .i64 n], .int .i64 pc] w fun e w' => e = .returned (.tuple #[.int .i64 ((pc : Int) + 1 + (askF c (m.reg d) (if r then m.reg s else numF n) r o n).1), .bool false, .int .i64 (askF c (m.reg d) (if r then m.reg s else numF n) r o n).2]) ∧ Below w.heap.size w w' := by
  have e28 : (c == 28) = false := by simp; omega
  have e14 : (c == 14) = false := by simp; omega
  rcases h1 : m.reg d with ⟨xk, xn, xc⟩
  cases r with
  | false =>
    show Calls Tryd.prog _ _ w fun e w' => e = .returned (.tuple #[.int .i64 ((pc : Int) + 1 + (askF c ⟨xk, xn, xc⟩ ⟨1, n, 0⟩ false o n).1), .bool false, .int .i64 (askF c ⟨xk, xn, xc⟩ ⟨1, n, 0⟩ false o n).2]) ∧ Below w.heap.size w w'
    by_cases h0 : xk = 0
    · rw [askF_a h0]
      exact (dask_a_f B d s pc c o n m hd hs hpc xk xn xc h1 e28 e14 hc1 hc2 (by rw [kd_0]; simpa using h0) w hM).mono fun e w' ⟨he, hb⟩ => ⟨by rw [he]; simp, hb⟩
    have x0 : (kd xk == 0) = false := by rw [kd_0]; simpa using h0
    by_cases hx1 : xk = 1
    · have x1 : (kd xk == 110) = true := by rw [kd_n]; simpa using hx1
      cases hi : isV c xn n
      · rw [askF_not hx1 rfl hi]
        exact (dask_is_f_f B d s pc c o n m hd hs hpc xk xn xc h1 e28 e14 hc1 hc2 x0 x1 hi w hM).mono fun e w' ⟨he, hb⟩ => ⟨by rw [he]; simp, hb⟩
      · rw [askF_so hx1 rfl hi]
        exact (dask_is_f_t B d s pc c o n m hd hs hpc xk xn xc h1 e28 e14 hc1 hc2 x0 x1 hi o0 o1 w hM).mono fun e w' ⟨he, hb⟩ => ⟨by rw [he], hb⟩
    have x1 : (kd xk == 110) = false := by rw [kd_n]; simpa using hx1
    by_cases hn : n = 0
    · have n0 : (n != 0) = false := by simpa using hn
      by_cases hj : c = 15
      · rw [askF_eq h0 (show ¬ (1 : Int) = 0 by decide) (fun h => hx1 h.1) hj hn]
        exact (dask_eq B d s pc c o n m hd hs hpc xk xn xc h1 e28 e14 hc1 hc2 x0 x1 n0 (by simpa using hj) (by simp; omega) w hM).mono fun e w' ⟨he, hb⟩ => ⟨by rw [he]; simp, hb⟩
      by_cases hk : c = 16
      · rw [askF_ne h0 (show ¬ (1 : Int) = 0 by decide) (fun h => hx1 h.1) hk hn]
        exact (dask_ne B d s pc c o n m hd hs hpc xk xn xc h1 e28 e14 hc1 hc2 x0 x1 n0 (by simpa using hj) (by simpa using hk) (by simpa using hk) o0 o1 w hM).mono fun e w' ⟨he, hb⟩ => ⟨by rw [he], hb⟩
      · rw [askF_arg h0 (show ¬ (1 : Int) = 0 by decide) (fun h => hx1 h.1) (Or.inl ⟨hj, hk⟩)]
        exact (dask_arg2_f B d s pc c o n m hd hs hpc xk xn xc h1 e28 e14 hc1 hc2 x0 x1 n0 (by simpa using hj) (by simpa using hk) w hM).mono fun e w' ⟨he, hb⟩ => ⟨by rw [he]; simp, hb⟩
    · rw [askF_arg h0 (show ¬ (1 : Int) = 0 by decide) (fun h => hx1 h.1) (Or.inr (Or.inr hn))]
      exact (dask_arg1_f B d s pc c o n m hd hs hpc xk xn xc h1 e28 e14 hc1 hc2 x0 x1 (by simpa using hn) w hM).mono fun e w' ⟨he, hb⟩ => ⟨by rw [he]; simp, hb⟩
  | true =>
    rcases h2 : m.reg s with ⟨yk, yn, yc⟩
    show Calls Tryd.prog _ _ w fun e w' => e = .returned (.tuple #[.int .i64 ((pc : Int) + 1 + (askF c ⟨xk, xn, xc⟩ ⟨yk, yn, yc⟩ true o n).1), .bool false, .int .i64 (askF c ⟨xk, xn, xc⟩ ⟨yk, yn, yc⟩ true o n).2]) ∧ Below w.heap.size w w'
    by_cases h0 : xk = 0
    · rw [askF_a h0]
      exact (dask_a_t B d s pc c o n m hd hs hpc xk xn xc h1 yk yn yc h2 e28 e14 hc1 hc2 (by rw [kd_0]; simpa using h0) w hM).mono fun e w' ⟨he, hb⟩ => ⟨by rw [he]; simp, hb⟩
    have x0 : (kd xk == 0) = false := by rw [kd_0]; simpa using h0
    by_cases hy0 : yk = 0
    · rw [askF_b hy0]
      exact (dask_b_t B d s pc c o n m hd hs hpc xk xn xc h1 yk yn yc h2 e28 e14 hc1 hc2 x0 (by rw [kd_0]; simpa using hy0) w hM).mono fun e w' ⟨he, hb⟩ => ⟨by rw [he]; simp, hb⟩
    have y0 : (kd yk == 0) = false := by rw [kd_0]; simpa using hy0
    by_cases hx1 : xk = 1
    · have x1 : (kd xk == 110) = true := by rw [kd_n]; simpa using hx1
      by_cases hy1 : yk = 1
      · have y1 : (kd yk == 110) = true := by rw [kd_n]; simpa using hy1
        cases hi : isV c xn yn
        · rw [askF_not hx1 hy1 hi]
          exact (dask_is_t_f B d s pc c o n m hd hs hpc xk xn xc h1 yk yn yc h2 e28 e14 hc1 hc2 x0 x1 y0 y1 hi w hM).mono fun e w' ⟨he, hb⟩ => ⟨by rw [he]; simp, hb⟩
        · rw [askF_so hx1 hy1 hi]
          exact (dask_is_t_t B d s pc c o n m hd hs hpc xk xn xc h1 yk yn yc h2 e28 e14 hc1 hc2 x0 x1 y0 y1 hi o0 o1 w hM).mono fun e w' ⟨he, hb⟩ => ⟨by rw [he], hb⟩
      · rw [askF_arg h0 hy0 (fun h => hy1 h.2) (Or.inr (Or.inl rfl))]
        exact (dask_arg1_t B d s pc c o n m hd hs hpc xk xn xc h1 yk yn yc h2 e28 e14 hc1 hc2 x0 y0 x1 (by rw [kd_n]; simpa using hy1) w hM).mono fun e w' ⟨he, hb⟩ => ⟨by rw [he]; simp, hb⟩
    · rw [askF_arg h0 hy0 (fun h => hx1 h.1) (Or.inr (Or.inl rfl))]
      exact (dask_arg2_t B d s pc c o n m hd hs hpc xk xn xc h1 yk yn yc h2 e28 e14 hc1 hc2 x0 y0 (by rw [kd_n]; simpa using hx1) w hM).mono fun e w' ⟨he, hb⟩ => ⟨by rw [he]; simp, hb⟩
theorem dload_all (hd : d < 11) (hs : s < 11) (hpc : pc ≤ 200) (hc : c = 25) (ho64 : In64 o) (hok : (m.abs L).Ok) (hM : DoxAt w B m) (hO : OutAt w B m.out L) :
    Calls Tryd.prog 61 #[.pointer (some ⟨B, 0, none⟩), .agg #[.int .i64 c, .int .i64 d, .int .i64 s, .bool false, .int .i64 o, .int .i64 n], .int .i64 pc] w fun e w' => e = .returned (.tuple #[.int .i64 ((pc : Int) + 1), .bool false, .int .i64 (loadF (m.abs L) d (m.reg s) o).1]) ∧ DRes B w w' m (loadF (m.abs L) d (m.reg s) o).1 (loadF (m.abs L) d (m.reg s) o).2 := by
  have e28 : (c == 28) = false := by simp; omega
  have e14 : (c == 14) = false := by simp; omega
  have e25 : (c == 25) = true := by simp; omega
  have hc1 : 24 < c := by omega
  rcases h1 : m.reg d with ⟨xk, xn, xc⟩
  have hp : (m.reg s).Ok := hok.reg s hs
  rcases h3 : m.reg s with ⟨fk, fn, fc⟩
  rw [h3] at hp
  have k0 : 0 ≤ fk := hp.k0
  have k4 : fk ≤ 4 := hp.k4
  rcases h2 : reachF ⟨fk, fn, fc⟩ o with ⟨t, E⟩
  by_cases hE : E = 0
  · subst hE
    have hr : (reachF ⟨fk, fn, fc⟩ o).2 = 0 := by rw [h2]
    have hb := reach_bd hr
    have hi : 2 ≤ fk ∨ fk < 0 := reach_in hr
    rw [h2] at hb
    obtain ⟨j, rfl⟩ := Int.eq_ofNat_of_zero_le hb.1
    have hj := hb.2
    unfold reachMax at hj
    by_cases hk2 : fk = 2
    · rw [if_pos hk2] at hj
      rw [loadF_told h2 hk2]
      exact (dload_told B d s pc c o n m hd hs hpc xk xn xc h1 fk fn fc h3 e28 e14 hc1 e25 hp ho64 j (by show j < 8; omega) (wordF_in h2 (by show fk ≠ 3; omega)) (by rw [kd_t]; simpa using hk2) w hM).mono fun e w' ⟨he, hk, hm⟩ => ⟨he, DRes.of_kept hM hO hk hm rfl rfl fun _ => rfl⟩
    have kt : (kd fk == 116) = false := by rw [kd_t]; simpa using hk2
    rw [if_neg hk2] at hj
    by_cases hk3 : fk = 3
    · rw [if_pos hk3] at hj
      have hj16 : j < 16 := by show j < 16; omega
      rcases h4 : m.slot j with ⟨sk, sn, sc⟩
      by_cases hsk : sk = 0
      · rw [loadF_empty h2 hk3 (by show (m.slot j).k = 0; rw [h4]; exact hsk)]
        exact (dload_empty B d s pc c o n m hd hs hpc xk xn xc h1 fk fn fc h3 e28 e14 hc1 e25 hp ho64 j (11 + j) ((j : Int) - 16) (wordF_slot h2 hk3) (by omega) (by omega) (by omega) rfl kt (kd_c3 hk3) sk sn sc h4 (by rw [kd_0]; simpa using hsk) w hM).mono fun e w' ⟨he, hb⟩ => ⟨he, DRes.of_below hM hO hb fun h => absurd h (by simp)⟩
      · rw [loadF_slot h2 hk3 (by show (m.slot j).k ≠ 0; rw [h4]; exact hsk)]
        exact (dload_slot B d s pc c o n m hd hs hpc xk xn xc h1 fk fn fc h3 e28 e14 hc1 e25 hp ho64 j (11 + j) ((j : Int) - 16) (wordF_slot h2 hk3) (by omega) (by omega) (by omega) rfl kt (kd_c3 hk3) sk sn sc h4 (by rw [kd_0]; simpa using hsk) w hM).mono fun e w' ⟨he, hk, hm⟩ => ⟨he, DRes.of_kept hM hO hk hm rfl rfl fun _ => by show _ = (m.abs L).putReg d (m.slot j); rw [h4]; rfl⟩
    rw [if_neg hk3] at hj
    have hk4 : fk = 4 := by omega
    obtain ⟨q, hq⟩ := Int.eq_ofNat_of_zero_le hp.c0
    have hq' : fc = (q : Int) := hq
    subst hq'
    have hq3 : (q : Int) ≤ 3 := hp.c3
    rw [loadF_cell h2 hk4]
    exact (dload_cell B d s pc c o n m hd hs hpc xk xn xc h1 fk fn e28 e14 hc1 e25 j q h3 hp ho64 (by show j < 4; omega) (by omega) (wordF_in h2 hk3) kt (kd_c hk4) w hM).mono fun e w' ⟨he, hk, hm⟩ => ⟨he, DRes.of_kept hM hO hk hm rfl rfl fun _ => rfl⟩
  · rw [loadF_no h2 hE]
    exact (dload_no B d s pc c o n m hd hs hpc xk xn xc h1 fk fn fc h3 e28 e14 hc1 e25 hp ho64 0 E (wordF_no h2 hE) (by simpa using hE) w hM).mono fun e w' ⟨he, hb⟩ => ⟨he, DRes.of_below hM hO hb fun h => absurd h hE⟩
theorem dstore_all (hd : d < 11) (hs : s < 11) (hpc : pc ≤ 200) (hc : c = 26) (ho64 : In64 o) (hok : (m.abs L).Ok) (hM : DoxAt w B m) (hO : OutAt w B m.out L) :
    Calls Tryd.prog 61 #[.pointer (some ⟨B, 0, none⟩), .agg #[.int .i64 c, .int .i64 d, .int .i64 s, .bool r, .int .i64 o, .int .i64 n], .int .i64 pc] w fun e w' => e = .returned (.tuple #[.int .i64 ((pc : Int) + 1), .bool false, .int .i64 (storeF (m.abs L) (m.reg d) (if r then m.reg s else numF n) o).1]) ∧ DRes B w w' m (storeF (m.abs L) (m.reg d) (if r then m.reg s else numF n) o).1 (storeF (m.abs L) (m.reg d) (if r then m.reg s else numF n) o).2 := by
  have e28 : (c == 28) = false := by simp; omega
  have e14 : (c == 14) = false := by simp; omega
  have e25 : (c == 25) = false := by simp; omega
  have e26 : (c == 26) = true := by simp; omega
  have hc1 : 24 < c := by omega
  have hp : (m.reg d).Ok := hok.reg d hd
  rcases h1 : m.reg d with ⟨fk, fn, fc⟩
  rw [h1] at hp
  have k0 : 0 ≤ fk := hp.k0
  have k4 : fk ≤ 4 := hp.k4
  have err : ∀ {X : Ending} {w' : World} {e : Int} {a : Abs}, e ≠ 0 → X = .returned (.tuple #[.int .i64 ((pc : Int) + 1), .bool false, .int .i64 e]) ∧ Below w.heap.size w w' → X = .returned (.tuple #[.int .i64 ((pc : Int) + 1), .bool false, .int .i64 e]) ∧ DRes B w w' m e a := fun h0 ⟨he, hb⟩ => ⟨he, DRes.of_below hM hO hb fun h => absurd h h0⟩
  have slot : ∀ {X : Ending} {w' : World} {t : Nat} {z : Val}, X = .returned (.tuple #[.int .i64 ((pc : Int) + 1), .bool false, .int .i64 0]) ∧ Kept B w w' ∧ DoxAt w' B (m.putV (11 + t) z) → X = .returned (.tuple #[.int .i64 ((pc : Int) + 1), .bool false, .int .i64 0]) ∧ DRes B w w' m 0 ((m.abs L).putSlot t z) := fun {X w' t z} ⟨he, hk, hm⟩ => ⟨he, DRes.of_kept (m' := m.putSlot t z) hM hO hk ((m.putV_slot z) ▸ hm) rfl rfl fun _ => rfl⟩
  rcases h2 : reachF ⟨fk, fn, fc⟩ o with ⟨t, E⟩
  by_cases hE : E = 0
  · subst hE
    have hr : (reachF ⟨fk, fn, fc⟩ o).2 = 0 := by rw [h2]
    have hb := reach_bd hr
    have hi : 2 ≤ fk ∨ fk < 0 := reach_in hr
    rw [h2] at hb
    obtain ⟨j, rfl⟩ := Int.eq_ofNat_of_zero_le hb.1
    have hj := hb.2
    unfold reachMax at hj
    rw [storeF_at h2]
    by_cases hk2 : fk = 2
    · rw [if_pos hk2]
      have kt : (kd fk == 116) = true := by rw [kd_t]; simpa using hk2
      cases r with
      | false => exact (dstore_told_f B d s pc c o n m hd hs hpc fk fn fc h1 e28 e14 hc1 e25 e26 hp ho64 j (wordF_in h2 (by show fk ≠ 3; omega)) kt w hM).mono fun e w' h => err (by simp) h
      | true =>
        rcases h3 : m.reg s with ⟨yk, yn, yc⟩
        exact (dstore_told_t B d s pc c o n m hd hs hpc fk fn fc h1 yk yn yc h3 e28 e14 hc1 e25 e26 hp ho64 j (wordF_in h2 (by show fk ≠ 3; omega)) kt w hM).mono fun e w' h => err (by simp) h
    have kt : (kd fk == 116) = false := by rw [kd_t]; simpa using hk2
    rw [if_neg hk2] at hj ⊢
    by_cases hk3 : fk = 3
    · rw [if_pos hk3] at hj ⊢
      have kf : (kd fk == 102) = true := by rw [kd_f]; simpa using hk3
      have hj16 : j < 16 := by show j < 16; omega
      cases r with
      | false =>
        rw [if_neg (show ¬ (if false = true then m.reg s else numF n).k = 0 by simp [numF])]
        exact (dstore_slot_f B d s pc c o n m hd hs hpc fk fn fc h1 e28 e14 hc1 e25 e26 hp ho64 (11 + j) ((j : Int) - 16) (wordF_slot h2 hk3) (by omega) (by omega) (by omega) kt kf w hM).mono fun e w' h => slot h
      | true =>
        rcases h3 : m.reg s with ⟨yk, yn, yc⟩
        by_cases hy0 : yk = 0
        · rw [if_pos (show (if true = true then (⟨yk, yn, yc⟩ : Val) else numF n).k = 0 from hy0)]
          exact (dstore_none_t B d s pc c o n m hd hs hpc fk fn fc h1 yk yn yc h3 e28 e14 hc1 e25 e26 hp ho64 _ (wordF_slot h2 hk3) kt (by rw [kd_0]; simpa using hy0) w hM).mono fun e w' h => err (by simp) h
        · rw [if_neg (show ¬ (if true = true then (⟨yk, yn, yc⟩ : Val) else numF n).k = 0 from hy0)]
          exact (dstore_slot_t B d s pc c o n m hd hs hpc fk fn fc h1 yk yn yc h3 e28 e14 hc1 e25 e26 hp ho64 (11 + j) ((j : Int) - 16) (wordF_slot h2 hk3) (by omega) (by omega) (by omega) kt (by rw [kd_0]; simpa using hy0) kf w hM).mono fun e w' h => slot h
    rw [if_neg hk3] at hj ⊢
    have kf : (kd fk == 102) = false := by rw [kd_f]; simpa using hk3
    obtain ⟨q, hq⟩ := Int.eq_ofNat_of_zero_le hp.c0
    have hq' : fc = (q : Int) := hq
    subst hq'
    have hq3 : (q : Int) ≤ 3 := hp.c3
    cases r with
    | false =>
      rw [if_neg (show ¬ (if false = true then m.reg s else numF n).k = 0 by simp [numF]), if_neg (show ¬ (if false = true then m.reg s else numF n).k ≠ 1 by simp [numF])]
      exact (dstore_cell_f B d s pc c o n m hd hs hpc fk fn q h1 e28 e14 hc1 e25 e26 hp ho64 j (by show j < 4; omega) (by omega) (wordF_in h2 hk3) kt kf w hM).mono fun e w' ⟨he, hk, hm⟩ => ⟨he, DRes.of_kept hM hO hk hm rfl rfl fun _ => rfl⟩
    | true =>
      rcases h3 : m.reg s with ⟨yk, yn, yc⟩
      by_cases hy0 : yk = 0
      · rw [if_pos (show (if true = true then (⟨yk, yn, yc⟩ : Val) else numF n).k = 0 from hy0)]
        exact (dstore_none_t B d s pc c o n m hd hs hpc fk fn q h1 yk yn yc h3 e28 e14 hc1 e25 e26 hp ho64 _ (wordF_in h2 hk3) kt (by rw [kd_0]; simpa using hy0) w hM).mono fun e w' h => err (by simp) h
      rw [if_neg (show ¬ (if true = true then (⟨yk, yn, yc⟩ : Val) else numF n).k = 0 from hy0)]
      have y0 : (kd yk == 0) = false := by rw [kd_0]; simpa using hy0
      by_cases hy1 : yk = 1
      · rw [if_neg (show ¬ (if true = true then (⟨yk, yn, yc⟩ : Val) else numF n).k ≠ 1 from fun h => h hy1)]
        exact (dstore_cell_t B d s pc c o n m hd hs hpc fk fn q h1 yk yn yc h3 e28 e14 hc1 e25 e26 hp ho64 j (by show j < 4; omega) (by omega) (wordF_in h2 hk3) kt y0 kf (by rw [bne_of (kd_n yk)]; simpa using hy1) w hM).mono fun e w' ⟨he, hk, hm⟩ => ⟨he, DRes.of_kept hM hO hk hm rfl rfl fun _ => rfl⟩
      · rw [if_pos (show (if true = true then (⟨yk, yn, yc⟩ : Val) else numF n).k ≠ 1 from hy1)]
        exact (dstore_arg_t B d s pc c o n m hd hs hpc fk fn q h1 yk yn yc h3 e28 e14 hc1 e25 e26 hp ho64 _ (wordF_in h2 hk3) kt y0 kf (by rw [bne_of (kd_n yk)]; simpa using hy1) w hM).mono fun e w' h => err (by simp) h
  · rw [storeF_no h2 hE]
    cases r with
    | false => exact (dstore_no_f B d s pc c o n m hd hs hpc fk fn fc h1 e28 e14 hc1 e25 e26 hp ho64 0 E (wordF_no h2 hE) (by simpa using hE) w hM).mono fun e w' h => err hE h
    | true =>
      rcases h3 : m.reg s with ⟨yk, yn, yc⟩
      exact (dstore_no_t B d s pc c o n m hd hs hpc fk fn fc h1 yk yn yc h3 e28 e14 hc1 e25 e26 hp ho64 0 E (wordF_no h2 hE) (by simpa using hE) w hM).mono fun e w' h => err hE h
/-- What the document's step does, of one that is no Exit. -/
theorem dstep_all (hd : d < 11) (hs : s < 11) (hpc : pc ≤ 200) (c1 : 1 ≤ c) (c2 : c ≤ 28) (hc : c ≠ 28) (hn : In64 n) (ho64 : In64 o) (h27 : c = 27 → n = 1 ∨ n = 2 ∨ n = 3) (hlead : (c = 14 ∨ (15 ≤ c ∧ c ≤ 24)) → 0 ≤ o ∧ o ≤ 200) (hreg : c = 14 ∨ c = 25 ∨ c = 27 → r = false) (hok : (m.abs L).Ok) (hM : DoxAt w B m) (hO : OutAt w B m.out L) :
    Calls Tryd.prog 61 #[.pointer (some ⟨B, 0, none⟩), .agg #[.int .i64 c, .int .i64 d, .int .i64 s, .bool r, .int .i64 o, .int .i64 n], .int .i64 pc] w fun e w' => e = .returned (.tuple #[.int .i64 ((pc : Int) + 1 + (doF c d s r o n (m.abs L)).1), .bool false, .int .i64 (doF c d s r o n (m.abs L)).2.1]) ∧ DRes B w w' m (doF c d s r o n (m.abs L)).2.1 (doF c d s r o n (m.abs L)).2.2 := by
  unfold doF
  rw [Int.toNat_natCast, Int.toNat_natCast]
  have e28 : (c == 28) = false := by simpa using hc
  by_cases h1 : 15 ≤ c ∧ c ≤ 24
  · rw [if_pos h1]
    have hl := hlead (Or.inr h1)
    exact (dask_all hd hs hpc h1.1 h1.2 hl.1 hl.2 hM).mono fun e w' ⟨he, hb⟩ => ⟨he, DRes.of_below hM hO hb fun _ => rfl⟩
  rw [if_neg h1]
  rcases hx : m.reg d with ⟨xk, xn, xc⟩
  by_cases h2 : c = 14
  · rw [if_pos h2]
    have hl := hlead (Or.inl h2)
    rw [hreg (Or.inl h2)]
    exact (djump B d s pc c o n m hd hs hpc xk xn xc hx e28 (by simpa using h2) hl.1 hl.2 w hM).mono fun e w' ⟨he, hb⟩ => ⟨he, DRes.of_below hM hO hb fun _ => rfl⟩
  rw [if_neg h2]
  have e14 : (c == 14) = false := by simpa using h2
  by_cases h3 : c = 25
  · rw [if_pos h3, hreg (Or.inr (Or.inl h3))]
    exact (dload_all hd hs hpc h3 ho64 hok hM hO).mono fun e w' ⟨he, hr⟩ => ⟨by rw [he]; simp; rfl, hr⟩
  rw [if_neg h3]
  have e25 : (c == 25) = false := by simpa using h3
  by_cases h4 : c = 26
  · rw [if_pos h4]
    exact (dstore_all hd hs hpc h4 ho64 hok hM hO).mono fun e w' ⟨he, hr⟩ => ⟨by rw [he]; simp; rfl, hr⟩
  rw [if_neg h4]
  have e26 : (c == 26) = false := by simpa using h4
  by_cases h5 : c = 27
  · rw [if_pos h5, hreg (Or.inr (Or.inr h5))]
    exact (dstep_call B d s pc c o n m hd hs hpc xk xn xc hx e28 e14 (by omega) e25 e26 (by simpa using h5) L _ _ (fun W hW hOW => dcall_all (h27 h5) hW hOW) w hM hO).mono fun e w' ⟨he, hr⟩ => ⟨by rw [he]; simp, hr⟩
  rw [if_neg h5]
  have e27 : (c == 27) = false := by simpa using h5
  cases r with
  | false => exact (dstep_counts_f B d s pc c o n m hd hs hpc xk xn xc hx e28 e14 (by omega) e25 e26 e27 L _ _ (fun W hW hOW => dcounts_all hd (numF n) hok (num_ok hn) (by omega) hW hOW) w hM hO).mono fun e w' ⟨he, hr⟩ => ⟨by rw [he]; simp; rfl, hr⟩
  | true =>
    rcases hy : m.reg s with ⟨yk, yn, yc⟩
    have hsec : (m.abs L).second s true n = ⟨yk, yn, yc⟩ := hy
    rw [hsec]
    exact (dstep_counts_t B d s pc c o n m hd hs hpc xk xn xc hx yk yn yc hy e28 e14 (by omega) e25 e26 e27 L _ _ (fun W hW hOW => dcounts_all hd ⟨yk, yn, yc⟩ hok (hy ▸ hok.reg s hs) (by omega) hW hOW) w hM hO).mono fun e w' ⟨he, hr⟩ => ⟨by rw [he]; simp; rfl, hr⟩
end
end Go.Proofs.YtegeiicginpdbaaDoor
