/-
  What a step that is no Exit does to a program that runs: by the plain machine. Conditions: the step is a right one; numbers are of 64 bits.
-/
import Derived.Test.YtegeiicginpdbaaDoorMach4
import Derived.Test.YtegeiicginpdbaaDoorMach5
import Derived.Test.YtegeiicginpdbaaDoorMach6
import Derived.Test.YtegeiicginpdbaaDoorMach8
namespace Go.Proofs.YtegeiicginpdbaaDoor
open Go.ChangeShapes Go.WideShapes Go.ChangeAt Go.RowKit
section
variable {a : Abs} {p v : Val} {o t : Int} {E : Int} {d : Nat}
theorem loadF_no (h : reachF p o = (t, E)) (hE : E ≠ 0) : loadF a d p o = (E, a) := by unfold loadF; rw [h]; exact if_pos hE
theorem loadF_at (h : reachF p o = (t, 0)) : loadF a d p o = if (a.at p t.toNat).k = 0 then (8, a) else (0, a.putReg d (a.at p t.toNat)) := by
  unfold loadF; rw [h]; exact if_neg (by simp)
theorem loadF_told (h : reachF p o = (t, 0)) (hk : p.k = 2) : loadF a d p o = (0, a.putReg d ⟨1, a.word t.toNat, 0⟩) := by
  have e : a.at p t.toNat = ⟨1, a.word t.toNat, 0⟩ := if_pos hk
  rw [loadF_at h, e]; exact if_neg (show ¬ (1 : Int) = 0 by decide)
theorem loadF_slot (h : reachF p o = (t, 0)) (hk : p.k = 3) (hn : (a.slot t.toNat).k ≠ 0) : loadF a d p o = (0, a.putReg d (a.slot t.toNat)) := by
  have e : a.at p t.toNat = a.slot t.toNat := by unfold Abs.at; rw [if_neg (by omega), if_pos hk]
  rw [loadF_at h, e]; exact if_neg hn
theorem loadF_empty (h : reachF p o = (t, 0)) (hk : p.k = 3) (hn : (a.slot t.toNat).k = 0) : loadF a d p o = (8, a) := by
  have e : a.at p t.toNat = a.slot t.toNat := by unfold Abs.at; rw [if_neg (by omega), if_pos hk]
  rw [loadF_at h, e]; exact if_pos hn
theorem loadF_cell (h : reachF p o = (t, 0)) (hk : p.k = 4) : loadF a d p o = (0, a.putReg d ⟨1, a.cel (p.c.toNat * 4 + t.toNat), 0⟩) := by
  have e : a.at p t.toNat = ⟨1, a.cel (p.c.toNat * 4 + t.toNat), 0⟩ := by unfold Abs.at; rw [if_neg (by omega), if_neg (by omega)]; rfl
  rw [loadF_at h, e]; exact if_neg (show ¬ (1 : Int) = 0 by decide)
theorem storeF_no (h : reachF p o = (t, E)) (hE : E ≠ 0) : storeF a p v o = (E, a) := by unfold storeF; rw [h]; exact if_pos hE
theorem storeF_at (h : reachF p o = (t, 0)) : storeF a p v o = if p.k = 2 then (6, a) else if v.k = 0 then (8, a) else if p.k = 3 then (0, a.putSlot t.toNat v) else if v.k ≠ 1 then (1, a) else (0, a.putCel (p.c.toNat * 4 + t.toNat) v.n) := by
  unfold storeF; rw [h]; exact if_neg (by simp)
end
/-- What comes of a method that answers an error: all below block B is as it was; what runs there is as it is to be, where nothing is wrong. -/
def Res (B : Nat) (w w' : World) (m : Mac) (E : Int) (a : Abs) : Prop :=
  Below B w w' ∧ ∃ m' L', MacAt w' B m' ∧ OutAt w' B m'.out L' ∧ m'.step = m.step ∧ m'.steps = m.steps ∧ (E = 0 → m'.abs L' = a)
theorem Res.of_kept {B : Nat} {w w' : World} {m m' : Mac} {L : List Int} {E : Int} {a : Abs} (hM : MacAt w B m) (hO : OutAt w B m.out L) (hk : Kept B w w') (hm : MacAt w' B m') (ho : m'.out = m.out) (h1 : m'.step = m.step) (h2 : m'.steps = m.steps) (ha : E = 0 → m'.abs L = a) : Res B w w' m E a :=
  ⟨kept_under hk hM.lt, m', L, hm, by rw [ho]; exact hO.kept hk, h1, h2, ha⟩
theorem Res.of_below {B : Nat} {w w' : World} {m : Mac} {L : List Int} {E : Int} {a : Abs} (hM : MacAt w B m) (hO : OutAt w B m.out L) (hb : Below w.heap.size w w') (ha : E = 0 → m.abs L = a) : Res B w w' m E a :=
  Res.of_kept hM hO (kept_below hb B) (hM.later hb) rfl rfl rfl ha
section
variable {B d s : Nat} {c o n : Int} {r : Bool} {m : Mac} {L : List Int} {w : World}
theorem ask_all (hd : d < 11) (hs : s < 11) (hM : MacAt w B m) :
    Calls Tryd.prog 100 #[.pointer (some ⟨B, 0, none⟩), .agg #[.int .i64 c, .int .i64 d, .int .i64 s, .bool r, .int .i64 o, .int .i64 n]] w fun e w' => e = .returned (.tuple #[.int .i64 (askF c (m.reg d) (m.second s r n) r o n).1, .int .i64 (askF c (m.reg d) (m.second s r n) r o n).2]) ∧ Below w.heap.size w w' := by
  rcases h1 : m.reg d with ⟨ak, an, ac⟩
  rcases h2 : m.second s r n with ⟨bk, bn, bc⟩
  exact ask_any B d s c o n r m hd hs ak an ac bk bn bc h1 h2 w hM
theorem load_all (hd : d < 11) (hs : s < 11) (hM : MacAt w B m) (hO : OutAt w B m.out L) (hok : (m.abs L).Ok) :
    Calls Tryd.prog 101 #[.pointer (some ⟨B, 0, none⟩), .agg #[.int .i64 c, .int .i64 d, .int .i64 s, .bool r, .int .i64 o, .int .i64 n]] w fun e w' => e = .returned (.int .i64 (loadF (m.abs L) d (m.reg s) o).1) ∧ Res B w w' m (loadF (m.abs L) d (m.reg s) o).1 (loadF (m.abs L) d (m.reg s) o).2 := by
  have hp : (m.reg s).Ok := hok.reg s hs
  rcases h1 : m.reg s with ⟨fk, fn, fc⟩
  rw [h1] at hp
  have k0 : 0 ≤ fk := hp.k0
  have k4 : fk ≤ 4 := hp.k4
  rcases h2 : reachF ⟨fk, fn, fc⟩ o with ⟨t, E⟩
  by_cases hE : E = 0
  · subst hE
    have hr : (reachF ⟨fk, fn, fc⟩ o).2 = 0 := by rw [h2]
    have hb := reach_bd hr
    have hi : 2 ≤ fk ∨ fk < 0 := reach_in hr
    rw [h2] at hb
    obtain ⟨j, rfl⟩ := Int.eq_ofNat_of_zero_le hb.1
    have hj := hb.2
    unfold reachMax at hj
    by_cases hk2 : fk = 2
    · rw [if_pos hk2] at hj
      rw [loadF_told h2 hk2]
      exact (load_told B d s j c o n r m hd hs fk fn fc h1 (by show j < 8; omega) h2 (by simpa using hk2) w hM).mono fun e w' ⟨he, hk, hm⟩ => ⟨he, Res.of_kept hM hO hk hm rfl rfl rfl fun _ => rfl⟩
    rw [if_neg hk2] at hj
    by_cases hk3 : fk = 3
    · rw [if_pos hk3] at hj
      rcases h3 : m.slot j with ⟨sk, sn, sc⟩
      by_cases hsk : sk = 0
      · rw [loadF_empty h2 hk3 (by show (m.slot j).k = 0; rw [h3]; exact hsk)]
        exact (load_empty B d s j c o n r m hd hs fk fn fc h1 (by show j < 16; omega) h2 (by simpa using hk2) (by simpa using hk3) sk sn sc h3 (by simpa using hsk) w hM).mono fun e w' ⟨he, hb⟩ => ⟨he, Res.of_below hM hO hb fun h => absurd h (by simp)⟩
      · rw [loadF_slot h2 hk3 (by show (m.slot j).k ≠ 0; rw [h3]; exact hsk)]
        exact (load_slot B d s j c o n r m hd hs fk fn fc h1 (by show j < 16; omega) h2 (by simpa using hk2) (by simpa using hk3) sk sn sc h3 (by simpa using hsk) w hM).mono fun e w' ⟨he, hk, hm⟩ => ⟨he, Res.of_kept hM hO hk hm rfl rfl rfl fun _ => by show _ = (m.abs L).putReg d (m.slot j); rw [h3]; rfl⟩
    rw [if_neg hk3] at hj
    have hk4 : fk = 4 := by omega
    obtain ⟨q, hq⟩ := Int.eq_ofNat_of_zero_le hp.c0
    have hq' : fc = (q : Int) := hq
    subst hq'
    have hq3 : (q : Int) ≤ 3 := hp.c3
    rw [loadF_cell h2 hk4]
    exact (load_cell B d s j q c o n r m hd hs fk fn h1 (by omega) (by show j < 4; omega) h2 (by simpa using hk2) (by simpa using hk3) (by simpa using hk4) w hM).mono fun e w' ⟨he, hk, hm⟩ => ⟨he, Res.of_kept hM hO hk hm rfl rfl rfl fun _ => rfl⟩
  · rw [loadF_no h2 hE]
    exact (load_no B d s c o n r m hd hs fk fn fc h1 t E h2 (by simpa using hE) w hM).mono fun e w' ⟨he, hb⟩ => ⟨he, Res.of_below hM hO hb fun h => absurd h hE⟩
theorem store_all (hd : d < 11) (hs : s < 11) (hM : MacAt w B m) (hO : OutAt w B m.out L) (hok : (m.abs L).Ok) :
    Calls Tryd.prog 102 #[.pointer (some ⟨B, 0, none⟩), .agg #[.int .i64 c, .int .i64 d, .int .i64 s, .bool r, .int .i64 o, .int .i64 n]] w fun e w' => e = .returned (.int .i64 (storeF (m.abs L) (m.reg d) (m.second s r n) o).1) ∧ Res B w w' m (storeF (m.abs L) (m.reg d) (m.second s r n) o).1 (storeF (m.abs L) (m.reg d) (m.second s r n) o).2 := by
  have hp : (m.reg d).Ok := hok.reg d hd
  rcases h1 : m.reg d with ⟨fk, fn, fc⟩
  rcases hv : m.second s r n with ⟨bk, bn, bc⟩
  rw [h1] at hp
  have k0 : 0 ≤ fk := hp.k0
  have k4 : fk ≤ 4 := hp.k4
  rcases h2 : reachF ⟨fk, fn, fc⟩ o with ⟨t, E⟩
  by_cases hE : E = 0
  · subst hE
    have hr : (reachF ⟨fk, fn, fc⟩ o).2 = 0 := by rw [h2]
    have hb := reach_bd hr
    have hi : 2 ≤ fk ∨ fk < 0 := reach_in hr
    rw [h2] at hb
    obtain ⟨j, rfl⟩ := Int.eq_ofNat_of_zero_le hb.1
    have hj := hb.2
    unfold reachMax at hj
    rw [storeF_at h2]
    by_cases hk2 : fk = 2
    · rw [if_pos hk2]
      exact (store_told B d s j c o n r m hd hs fk fn fc bk bn bc h1 hv h2 (by simpa using hk2) w hM).mono fun e w' ⟨he, hb⟩ => ⟨he, Res.of_below hM hO hb fun h => absurd h (by simp)⟩
    rw [if_neg hk2] at hj ⊢
    by_cases hb0 : bk = 0
    · rw [if_pos hb0]
      exact (store_none B d s j c o n r m hd hs fk fn fc bk bn bc h1 hv h2 (by simpa using hk2) (by simpa using hb0) w hM).mono fun e w' ⟨he, hb⟩ => ⟨he, Res.of_below hM hO hb fun h => absurd h (by simp)⟩
    rw [if_neg hb0]
    by_cases hk3 : fk = 3
    · rw [if_pos hk3] at hj ⊢
      exact (store_slot B d s j c o n r m hd hs fk fn fc bk bn bc h1 hv h2 (by show j < 16; omega) (by simpa using hk2) (by simpa using hb0) (by simpa using hk3) w hM).mono fun e w' ⟨he, hk, hm⟩ => ⟨he, Res.of_kept hM hO hk hm rfl rfl rfl fun _ => rfl⟩
    rw [if_neg hk3] at hj ⊢
    by_cases hb1 : bk = 1
    · rw [if_neg (by simpa using hb1)]
      obtain ⟨q, hq⟩ := Int.eq_ofNat_of_zero_le hp.c0
      have hq' : fc = (q : Int) := hq
      subst hq'
      have hq3 : (q : Int) ≤ 3 := hp.c3
      exact (store_cell B d s j q c o n r m hd hs fk fn bk bn bc h1 hv h2 (by show j < 4; omega) (by omega) (by simpa using hk2) (by simpa using hb0) (by simpa using hk3) (by simpa using hb1) w hM).mono fun e w' ⟨he, hk, hm⟩ => ⟨he, Res.of_kept hM hO hk hm rfl rfl rfl fun _ => rfl⟩
    · rw [if_pos hb1]
      exact (store_arg B d s j c o n r m hd hs fk fn fc bk bn bc h1 hv h2 (by simpa using hk2) (by simpa using hb0) (by simpa using hk3) (by simpa using hb1) w hM).mono fun e w' ⟨he, hb⟩ => ⟨he, Res.of_below hM hO hb fun h => absurd h (by simp)⟩
  · rw [storeF_no h2 hE]
    exact (store_no B d s c o n r m hd hs fk fn fc bk bn bc h1 hv t E h2 (by simpa using hE) w hM).mono fun e w' ⟨he, hb⟩ => ⟨he, Res.of_below hM hO hb fun h => absurd h hE⟩
theorem call_all (hn : n = 1 ∨ n = 2 ∨ n = 3) (hM : MacAt w B m) (hO : OutAt w B m.out L) :
    Calls Tryd.prog 103 #[.pointer (some ⟨B, 0, none⟩), .int .i64 n] w fun e w' => e = .returned (.int .i64 (callF (m.abs L) n).1) ∧ Res B w w' m (callF (m.abs L) n).1 (callF (m.abs L) n).2 := by
  rcases h1 : m.reg 1 with ⟨fk, fn, fc⟩
  have h1' : (m.abs L).reg 1 = ⟨fk, fn, fc⟩ := h1
  unfold callF
  rw [h1']
  rcases hn with rfl | rfl | rfl
  · by_cases hw : wantF ⟨fk, fn, fc⟩ = 0
    · rw [if_neg (by simp [hw]), if_pos rfl]
      rcases hf : foundF fn with ⟨rk, rn, rc⟩
      exact (call_find B m fk fn fc h1 hw rk rn rc hf w hM).mono fun e w' ⟨he, hk, hm⟩ => ⟨he, Res.of_kept hM hO hk hm rfl rfl rfl fun _ => rfl⟩
    · rw [if_pos ⟨by decide, hw⟩]
      exact (call_no1 B m fk fn fc h1 _ rfl (by simpa using hw) w hM).mono fun e w' ⟨he, hb⟩ => ⟨he, Res.of_below hM hO hb fun h => absurd h hw⟩
  · rw [if_neg (by simp), if_neg (by decide), if_pos rfl]
    exact (call_time B m fk fn fc h1 w hM).mono fun e w' ⟨he, hk, hm⟩ => ⟨he, Res.of_kept hM hO hk hm rfl rfl rfl fun _ => rfl⟩
  · by_cases hw : wantF ⟨fk, fn, fc⟩ = 0
    · rw [if_neg (by simp [hw]), if_neg (by decide), if_neg (by decide)]
      exact (call_emit B m fk fn fc h1 L hw w hM hO).mono fun e w' ⟨he, hb, v', hm, ho⟩ => ⟨he, hb, _, _, hm, ho, rfl, rfl, fun _ => rfl⟩
    · rw [if_pos ⟨by decide, hw⟩]
      exact (call_no3 B m fk fn fc h1 _ rfl (by simpa using hw) w hM).mono fun e w' ⟨he, hb⟩ => ⟨he, Res.of_below hM hO hb fun h => absurd h hw⟩
theorem change_all (hd : d < 11) (hs : s < 11) (hn : In64 n) (hM : MacAt w B m) (hO : OutAt w B m.out L) (hok : (m.abs L).Ok) :
    Calls Tryd.prog 104 #[.pointer (some ⟨B, 0, none⟩), .agg #[.int .i64 c, .int .i64 d, .int .i64 s, .bool r, .int .i64 o, .int .i64 n]] w fun e w' => e = .returned (.int .i64 (makesF c (m.reg d) (m.second s r n)).2) ∧ Res B w w' m (makesF c (m.reg d) (m.second s r n)).2 ((m.abs L).putReg d (makesF c (m.reg d) (m.second s r n)).1) := by
  have h2 : (m.second s r n).Ok := hok.second hs r hn
  rcases hm : makesF c (m.reg d) (m.second s r n) with ⟨⟨mk, mn, mc⟩, E⟩
  exact (change_any B d s c o n r m hd hs h2.n.1 h2.n.2 mk mn mc E hm w hM).mono fun e w' ⟨he, hk, hm⟩ => ⟨he, Res.of_kept hM hO hk hm rfl rfl rfl fun _ => rfl⟩
end
end Go.Proofs.YtegeiicginpdbaaDoor
