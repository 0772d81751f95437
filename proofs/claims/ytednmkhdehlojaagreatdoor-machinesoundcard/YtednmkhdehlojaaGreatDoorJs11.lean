/-
  A way of a verifier, on plain numbers: which ways lead on from a step: a machine of which what is known is so goes one of them; and all ways of a list of steps, each wholly ahead of the next one: where none goes wrong, a machine ends well, with a number that is between the ends of one way. No program is named here. Conditions: the ends are of 64 bits; the steps are right. All ways of a list of right steps, on plain numbers: where none goes wrong, a machine of which what is known at a step is so ends well from there, behind at least one step and not more than there are, with a number that is between the ends of one way. No program is named here. Conditions: the steps are right; what is known has ends of 64 bits on all ways (lk). What is known stays with ends of 64 bits, in order, behind every look of a verifier, on plain numbers. No program is named here. Conditions: the step is right. What package verify's makes, second and change do. Conditions: the ends are of 64 bits, in order. What package verify's joined returns: the least bound that has all that others have. Conditions: the list's cells hold them. What package verify's kept returns: what one slot has, or what several have. Conditions: the slots are there. What package verify's kept returns, by the plain way. Conditions: the slots are there.
-/
import Derived.Test.YtednmkhdehlojaaGreatDoorJs10
import Derived.Test.YtednmkhdehlojaaGreatDoorJs5
import Derived.Test.YtednmkhdehlojaaGreatDoorJs9
import Derived.LoopN
open Go.Value renaming int → vI
open Go.IntKind renaming i64 → vK
open Go.RowKit.Below renaming alloc → bA, setCell → bS, drew → bD, refl → bF
set_option maxHeartbeats 4000000
set_option maxRecDepth 1000000
namespace Go.Proofs.YtednmkhdehlojaaGreatDoor
open Go.RowKit
def Way.look (y : Way) (c : Int) (d s : Nat) (r : Bool) (o n : Int) : List (Int × Way) × Int :=
  if 15 ≤ c ∧ c ≤ 24 then y.ask c d s r o n
  else if c = 14 then ([(o, y)], 0)
  else if c = 28 then ([], knoWant (y.reg 0))
  else if c = 25 then (if (y.load d s o).1 = 0 then ([(0, (y.load d s o).2)], 0) else ([], (y.load d s o).1))
  else if c = 26 then (if (y.store (y.reg d) (y.second s r n) o).1 = 0 then ([(0, (y.store (y.reg d) (y.second s r n) o).2)], 0) else ([], (y.store (y.reg d) (y.second s r n) o).1))
  else if c = 27 then (if (y.call n).1 = 0 then ([(0, (y.call n).2)], 0) else ([], (y.call n).1))
  else (if (y.change c d s r n).1 = 0 then ([(0, (y.change c d s r n).2)], 0) else ([], (y.change c d s r n).1))
theorem look_has {y : Way} {a : Abs} {c d s : Int} {r : Bool} {o n : Int} (hk : y.Ok) (ha : a.Ok) (hy : y.Has a) (hc : 1 ≤ c ∧ c ≤ 27) (hd : d.toNat < 11) (hs : s.toNat < 11) (ho : In64 o) (hn : In64 n) (hw : c = 27 → n = 1 ∨ n = 2 ∨ n = 3)
    (h : (y.look c d.toNat s.toNat r o n).2 = 0) : (doF c d s r o n a).2.1 = 0 ∧ ∃ y', ((doF c d s r o n a).1, y') ∈ (y.look c d.toNat s.toNat r o n).1 ∧ y'.Has (doF c d s r o n a).2.2 := by
  unfold Way.look at h ⊢
  unfold doF
  by_cases c1 : 15 ≤ c ∧ c ≤ 24
  · rw [if_pos c1] at h ⊢
    rw [if_pos c1]
    exact ask_has hk hy c1 hd hs hn h
  rw [if_neg c1] at h ⊢
  rw [if_neg c1]
  by_cases c2 : c = 14
  · rw [if_pos c2, if_pos c2]
    exact ⟨rfl, y, List.mem_singleton.mpr rfl, hy⟩
  rw [if_neg c2] at h ⊢
  rw [if_neg c2]
  rw [if_neg (show ¬ c = 28 by omega)] at h ⊢
  by_cases c3 : c = 25
  · rw [if_pos c3] at h ⊢
    rw [if_pos c3]
    by_cases z : (y.load d.toNat s.toNat o).1 = 0
    · rw [if_pos z]
      obtain ⟨g1, g2⟩ := load_has hk ha hy hs ho z
      exact ⟨g1, _, List.mem_singleton.mpr rfl, g2⟩
    · rw [if_neg z] at h; exact absurd h z
  rw [if_neg c3] at h ⊢
  rw [if_neg c3]
  by_cases c4 : c = 26
  · rw [if_pos c4] at h ⊢
    rw [if_pos c4]
    by_cases z : (y.store (y.reg d.toNat) (y.second s.toNat r n) o).1 = 0
    · rw [if_pos z]
      obtain ⟨g1, g2⟩ := store_has hy (hk.reg _ hd) (second_ok hk hs hn) (hy.reg _ hd) (hy.second hs) ho z
      exact ⟨g1, _, List.mem_singleton.mpr rfl, g2⟩
    · rw [if_neg z] at h; exact absurd h z
  rw [if_neg c4] at h ⊢
  rw [if_neg c4]
  by_cases c5 : c = 27
  · rw [if_pos c5] at h ⊢
    rw [if_pos c5]
    by_cases z : (y.call n).1 = 0
    · rw [if_pos z]
      obtain ⟨g1, g2⟩ := call_has ha hy (hw c5) z
      exact ⟨g1, _, List.mem_singleton.mpr rfl, g2⟩
    · rw [if_neg z] at h; exact absurd h z
  rw [if_neg c5] at h ⊢
  rw [if_neg c5]
  by_cases z : (y.change c d.toNat s.toNat r n).1 = 0
  · rw [if_pos z]
    obtain ⟨g1, g2⟩ := change_has hk hy ⟨by omega, by omega⟩ hd hs hn z
    exact ⟨g1, _, List.mem_singleton.mpr rfl, g2⟩
  · rw [if_neg z] at h; exact absurd h z
def goF (C D S : Nat → Int) (R : Nat → Bool) (O N : Nat → Int) : Nat → List (Nat × Way) → List Kno → (Int × Nat) ⊕ List Kno
  | _, [], ends => .inr ends
  | 0, x :: _, _ => .inl (4, x.1)
  | f + 1, x :: st, ends =>
    if (x.2.look (C x.1) (D x.1).toNat (S x.1).toNat (R x.1) (O x.1) (N x.1)).2 ≠ 0 then .inl ((x.2.look (C x.1) (D x.1).toNat (S x.1).toNat (R x.1) (O x.1) (N x.1)).2, x.1)
    else goF C D S R O N f ((x.2.look (C x.1) (D x.1).toNat (S x.1).toNat (R x.1) (O x.1) (N x.1)).1.map (fun z => (x.1 + 1 + z.1.toNat, z.2)) ++ st) (if C x.1 = 28 then ends ++ [x.2.reg 0] else ends)
theorem ask_offs {y : Way} {c : Int} {d s : Nat} {r : Bool} {o n : Int} : ∀ z, z ∈ (y.ask c d s r o n).1 → z.1 = 0 ∨ z.1 = o := by
  intro z hz
  unfold Way.ask at hz
  split at hz
  · exact absurd hz (by simp)
  split at hz
  · unfold Way.askNumbers at hz
    rcases List.mem_append.mp hz with hz | hz
    · split at hz
      · rw [List.mem_singleton.mp hz]; exact Or.inl rfl
      · exact absurd hz (by simp)
    · split at hz
      · rw [List.mem_singleton.mp hz]; exact Or.inr rfl
      · exact absurd hz (by simp)
  split at hz
  · exact absurd hz (by simp)
  · unfold Way.askPlace at hz
    split at hz
    · rw [List.mem_singleton.mp hz]
      by_cases e : c = 16
      · exact Or.inr (if_pos e)
      · exact Or.inl (if_neg e)
    · rcases List.mem_cons.mp hz with hz | hz
      · rw [hz]
        by_cases e : c = 16
        · exact Or.inl (if_pos e)
        · exact Or.inr (if_neg e)
      · rw [List.mem_singleton.mp hz]
        by_cases e : c = 16
        · exact Or.inr (if_pos e)
        · exact Or.inl (if_neg e)
theorem look_offs {y : Way} {c : Int} {d s : Nat} {r : Bool} {o n : Int} : ∀ z, z ∈ (y.look c d s r o n).1 → c ≠ 28 ∧ (z.1 = 0 ∨ (z.1 = o ∧ (c = 14 ∨ (15 ≤ c ∧ c ≤ 24)))) := by
  intro z hz
  unfold Way.look at hz
  by_cases c1 : 15 ≤ c ∧ c ≤ 24
  · rw [if_pos c1] at hz
    exact ⟨by omega, (ask_offs z hz).elim Or.inl fun e => Or.inr ⟨e, Or.inr c1⟩⟩
  rw [if_neg c1] at hz
  by_cases c2 : c = 14
  · rw [if_pos c2] at hz
    rw [List.mem_singleton.mp hz]
    exact ⟨by omega, Or.inr ⟨rfl, Or.inl c2⟩⟩
  rw [if_neg c2] at hz
  by_cases c3 : c = 28
  · rw [if_pos c3] at hz; exact absurd hz (by simp)
  rw [if_neg c3] at hz
  refine ⟨c3, Or.inl ?_⟩
  split at hz
  · split at hz
    · rw [List.mem_singleton.mp hz]
    · exact absurd hz (by simp)
  split at hz
  · split at hz
    · rw [List.mem_singleton.mp hz]
    · exact absurd hz (by simp)
  split at hz
  · split at hz
    · rw [List.mem_singleton.mp hz]
    · exact absurd hz (by simp)
  · split at hz
    · rw [List.mem_singleton.mp hz]
    · exact absurd hz (by simp)
theorem go_sound {C D S : Nat → Int} {R : Nat → Bool} {O N : Nat → Int} {len : Nat} (hr : ∀ i, i < len → Right (C i) (D i) (S i) (R i) (O i) (N i) len i) (hf : ∀ i, i < len → In64 (O i) ∧ In64 (N i))
    (lk : ∀ i, i < len → ∀ y : Way, y.Ok → ∀ z, z ∈ (y.look (C i) (D i).toNat (S i).toNat (R i) (O i) (N i)).1 → z.2.Ok) :
    ∀ (f : Nat) (st : List (Nat × Way)) (ends E : List Kno), goF C D S R O N f st ends = .inr E → (∀ x, x ∈ st → x.1 < len ∧ x.2.Ok) →
      (∀ b, b ∈ ends → b ∈ E) ∧ ∀ x, x ∈ st → ∀ (a : Abs) (k : Nat), a.Ok → x.2.Has a →
        ∃ n k' a', runF C D S R O N len x.1 k a = .fine n k' a' ∧ k + 1 ≤ k' ∧ k' + x.1 ≤ k + len ∧ ∃ b, b ∈ E ∧ b.l ≤ n ∧ n ≤ b.h := by
  intro f
  induction f with
  | zero =>
    intro st ends E h _
    cases st with
    | nil => rw [goF] at h; cases h; exact ⟨fun b hb => hb, fun x hx => absurd hx (by simp)⟩
    | cons x st => rw [goF] at h; exact absurd h (by simp)
  | succ f ih =>
    intro st ends E h hst
    cases st with
    | nil => rw [goF] at h; cases h; exact ⟨fun b hb => hb, fun x hx => absurd hx (by simp)⟩
    | cons x st =>
      obtain ⟨hx1, hx2⟩ := hst x mcS
      have r := hr x.1 hx1
      have hfx := hf x.1 hx1
      rw [goF] at h
      by_cases h0 : (x.2.look (C x.1) (D x.1).toNat (S x.1).toNat (R x.1) (O x.1) (N x.1)).2 ≠ 0
      · rw [if_pos h0] at h; exact absurd h (by simp)
      rw [if_neg h0] at h
      have h0' := Classical.byContradiction h0
      obtain ⟨i1, i2⟩ := ih _ _ E h (fun z hz => by
        rcases List.mem_append.mp hz with hz | hz
        · obtain ⟨u, hu, rfl⟩ := List.mem_map.mp hz
          obtain ⟨u1, u2⟩ := look_offs u hu
          have hl := r.last u1
          refine ⟨?_, lk x.1 hx1 x.2 hx2 u hu⟩
          show x.1 + 1 + u.1.toNat < len
          rcases u2 with u2 | ⟨u2, u3⟩
          · omega
          · have := r.lead u3; omega
        · exact hst z (mcO _ hz))
      refine ⟨fun b hb => i1 b (by split; exact List.mem_append_left _ hb; exact hb), fun z hz a k ha hz2 => ?_⟩
      rcases List.mem_cons.mp hz with rfl | hz
      · by_cases hc : C z.1 = 28
        · have hw : knoWant (z.2.reg 0) = 0 := by
            have e := h0'
            unfold Way.look at e
            rw [if_neg (by omega), if_neg (by omega), if_pos hc] at e
            exact e
          obtain ⟨w0, -, w2, w3⟩ := knoWant_has (hz2.reg 0 (by decide)) hw
          exact ⟨_, _, _, runF_exit hx1 hc w0, by omega, by omega, z.2.reg 0, i1 _ (by rw [if_pos hc]; exact List.mem_append_right _ (List.mem_singleton.mpr rfl)), w2, w3⟩
        · have c2 := r.c2
          have d1 := r.d1
          have d2 := r.d2
          have s1 := r.s1
          have s2 := r.s2
          obtain ⟨g1, y', g2, g3⟩ := look_has hx2 ha hz2 ⟨r.c1, by omega⟩ (by omega) (by omega) hfx.1 hfx.2 r.call h0'
          have ok := doF_ok ha r.c1 r.c2 hc r.d1 r.d2 r.s1 r.s2 hfx.2 (r := R z.1) (o := O z.1)
          obtain ⟨n, k', a', e1, e2, e3, e4⟩ := i2 (z.1 + 1 + (doF (C z.1) (D z.1) (S z.1) (R z.1) (O z.1) (N z.1) a).1.toNat, y') (List.mem_append_left _ (List.mem_map.mpr ⟨_, g2, rfl⟩)) _ (k + 1) ok g3
          have e3' : k' + (z.1 + 1 + (doF (C z.1) (D z.1) (S z.1) (R z.1) (O z.1) (N z.1) a).1.toNat) ≤ k + 1 + len := e3
          exact ⟨n, k', a', (runF_go hx1 hc g1).trans e1, by omega, by omega, e4⟩
      · exact i2 z (List.mem_append_right _ hz) a k ha hz2
theorem fill_in {m : Int} (h : m ≤ 9223372036854775807) : fillV m ≤ 9223372036854775807 := by
  have d := ones_lt (fill_le h)
  unfold fillV
  omega
theorem fit2_ok (u v : Int) : -9223372036854775808 ≤ (fit2 u v).1 ∧ (fit2 u v).2 ≤ 9223372036854775807 := by
  cases h : fits u && fits v
  · rw [fit2_no h]; decide
  · rw [fit2_yes h]
    simp only [Bool.and_eq_true, fits_iff] at h
    exact ⟨h.1.1, h.2.2⟩
theorem pow_lo {k : Nat} (hk : k ≠ 0) (h : k < 64) : (2 : Int) ^ (64 - k) - 1 ≤ 9223372036854775807 := by
  have hle : 2 ^ (64 - k) ≤ 2 ^ 63 := Nat.pow_le_pow_right (by decide) (by omega)
  have := Int.ofNat_le.2 hle
  rw [Int.natCast_pow] at this
  have e : ((2 ^ 63 : Nat) : Int) = 9223372036854775808 := by decide
  rw [e] at this
  have e2 : ((2 : Nat) : Int) = 2 := rfl
  rw [e2] at this
  omega
theorem half_in {x : Int} (k : Nat) (h : In64 x) : In64 (x / 2 ^ k) := by
  have a := half_bd (x := x) k
  unfold In64 at h ⊢
  by_cases hx : 0 ≤ x
  · have := a.1 hx; omega
  · have := a.2 (by omega); omega
theorem bdV_low {c al ah bl bh : Int} (hc : 1 ≤ c ∧ c ≤ 13) (a1 : In64 al) (a2 : In64 ah) (ha : al ≤ ah) (b1 : In64 bl) (b2 : In64 bh) (hb : bl ≤ bh) :
    -9223372036854775808 ≤ (bdV c al ah bl bh).1 ∧ (bdV c al ah bl bh).2 ≤ 9223372036854775807 := by
  have all : -9223372036854775808 ≤ ((-9223372036854775808, 9223372036854775807) : Int × Int).1 ∧ ((-9223372036854775808, 9223372036854775807) : Int × Int).2 ≤ 9223372036854775807 := by decide
  have h : c = 1 ∨ c = 2 ∨ c = 3 ∨ c = 4 ∨ c = 5 ∨ c = 6 ∨ c = 7 ∨ c = 8 ∨ c = 9 ∨ c = 10 ∨ c = 11 ∨ c = 12 ∨ c = 13 := by omega
  have ua1 := a1.1
  have ua2 := a2.2
  have ub1 := b1.1
  have ub2 := b2.2
  rcases h with rfl | rfl | rfl | rfl | rfl | rfl | rfl | rfl | rfl | rfl | rfl | rfl | rfl
  · rw [bdV_1]; exact ⟨ub1, ub2⟩
  · rw [bdV_2]; exact fit2_ok _ _
  · rw [bdV_3]; exact fit2_ok _ _
  · rw [bdV_4]
    split
    · rename_i hs
      simp only [Bool.and_eq_true] at hs
      obtain ⟨⟨⟨s1, s2⟩, s3⟩, s4⟩ := hs
      have m1 := wrap64_bd (al * bl)
      have m2 := wrap64_bd (al * bh)
      have m3 := wrap64_bd (ah * bl)
      have m4 := wrap64_bd (ah * bh)
      rw [small_mul s1 s3] at m1
      rw [small_mul s1 s4] at m2
      rw [small_mul s2 s3] at m3
      rw [small_mul s2 s4] at m4
      show -9223372036854775808 ≤ mulLo al ah bl bh ∧ mulHi al ah bl bh ≤ 9223372036854775807
      unfold mulLo mulHi
      generalize al * bl = p at *
      generalize al * bh = q at *
      generalize ah * bl = r at *
      generalize ah * bh = t at *
      omega
    · exact all
  · rw [bdV_5]
    split
    · split
      · have l := Int.ediv_nonneg (by omega : 0 ≤ al) (by omega : 0 ≤ bh)
        have g := Int.ediv_le_self bl (by omega : 0 ≤ ah)
        show -9223372036854775808 ≤ al / bh ∧ ah / bl ≤ 9223372036854775807
        omega
      · show -9223372036854775808 ≤ (0 : Int) ∧ ah ≤ 9223372036854775807
        omega
    · exact all
  · rw [bdV_6]
    split
    · split
      · show -9223372036854775808 ≤ (0 : Int) ∧ min ah (bh - 1) ≤ 9223372036854775807
        omega
      · show -9223372036854775808 ≤ (0 : Int) ∧ ah ≤ 9223372036854775807
        omega
    · exact all
  · rw [bdV_7]
    split
    · split
      · show -9223372036854775808 ≤ (0 : Int) ∧ min ah bh ≤ 9223372036854775807
        omega
      · show -9223372036854775808 ≤ (0 : Int) ∧ ah ≤ 9223372036854775807
        omega
    · split
      · show -9223372036854775808 ≤ (0 : Int) ∧ bh ≤ 9223372036854775807
        omega
      · exact all
  · rw [bdV_8]
    split
    · have f := fill_in (m := max ah bh) (by omega)
      refine ⟨?_, f⟩
      show -9223372036854775808 ≤ max al bl
      omega
    · exact all
  · rw [bdV_9]
    split
    · have f := fill_in (m := max ah bh) (by omega)
      exact ⟨by show -9223372036854775808 ≤ (0 : Int); decide, f⟩
    · exact all
  · rw [bdV_10]
    split
    · exact fit2_ok _ _
    · exact all
  · rw [bdV_11]
    split
    · split
      · exact ⟨ua1, ua2⟩
      · split
        · exact ⟨(half_in _ a1).1, (half_in _ a2).2⟩
        · exact ⟨by show -9223372036854775808 ≤ (0 : Int); decide, pow_lo (by assumption) (sixBits_lt _)⟩
    · split
      · exact ⟨by show -9223372036854775808 ≤ (0 : Int); decide, ua2⟩
      · exact all
  · rw [bdV_12]
    split
    · exact ⟨(half_in _ a1).1, (half_in _ a2).2⟩
    · split
      · exact ⟨by show -9223372036854775808 ≤ (0 : Int); decide, ua2⟩
      · split
        · exact ⟨ua1, by show (-1 : Int) ≤ 9223372036854775807; decide⟩
        · exact ⟨ua1, ua2⟩
  · rw [bdV_13]; exact fit2_ok _ _
theorem bdV_ok {c al ah bl bh : Int} (hc : 1 ≤ c ∧ c ≤ 13) (a1 : In64 al) (a2 : In64 ah) (ha : al ≤ ah) (b1 : In64 bl) (b2 : In64 bh) (hb : bl ≤ bh) :
    In64 (bdV c al ah bl bh).1 ∧ In64 (bdV c al ah bl bh).2 ∧ (bdV c al ah bl bh).1 ≤ (bdV c al ah bl bh).2 := by
  have l := bdV_low hc a1 a2 ha b1 b2 hb
  have h := bdV_has (x := al) (y := bl) hc a1.1 a2.2 b1.1 b2.2 (Int.le_refl _) ha (Int.le_refl _) hb
  unfold In64
  omega
theorem kno0_ok : kno0.Ok := ⟨by decide, by decide, ⟨by decide, by decide⟩, ⟨by decide, by decide⟩, by decide⟩
theorem knoNum_ok {l h : Int} (h1 : In64 l) (h2 : In64 h) (h3 : l ≤ h) : (knoNum l h).Ok := ⟨by show (0 : Int) ≤ 1; decide, by show (1 : Int) ≤ 5; decide, h1, h2, h3⟩
theorem knoAll_ok : (knoNum (-9223372036854775808) 9223372036854775807).Ok := knoNum_ok ⟨by decide, by decide⟩ ⟨by decide, by decide⟩ (by decide)
theorem knoOne_ok {n : Int} (h : In64 n) : (knoNum n n).Ok := knoNum_ok h h (Int.le_refl _)
theorem knoFurther_ok {k : Int} {b : Int × Int} (k0 : 0 ≤ k) (k5 : k ≤ 5) (h1 : In64 b.1) (h2 : In64 b.2) (h3 : b.1 ≤ b.2) : (knoFurther k b).1.Ok := by
  unfold knoFurther
  split
  · exact kno0_ok
  · exact ⟨k0, k5, h1, h2, h3⟩
theorem knoMakes_ok {c : Int} {a b : Kno} (hc : 1 ≤ c ∧ c ≤ 13) (ka : a.Ok) (kb : b.Ok) : (knoMakes c a b).1.Ok := by
  obtain ⟨x1, x2, x3⟩ := bdV_ok hc ka.2.2.1 ka.2.2.2.1 ka.2.2.2.2 kb.2.2.1 kb.2.2.2.1 kb.2.2.2.2
  unfold knoMakes
  split
  · exact kno0_ok
  split
  · exact kb
  split
  · exact knoNum_ok x1 x2 x3
  split
  · exact knoFurther_ok ka.1 ka.2.1 x1 x2 x3
  split
  · exact knoFurther_ok kb.1 kb.2.1 x1 x2 x3
  · exact kno0_ok
theorem Way.Ok.putReg {y : Way} (h : y.Ok) (d : Nat) {x : Kno} (hx : x.Ok) : (y.putReg d x).Ok :=
  ⟨fun i hi => by show (if i = d then x else y.reg i).Ok; split; exact hx; exact h.reg i hi, h.slot⟩
theorem Way.Ok.putSlot {y : Way} (h : y.Ok) (d : Nat) {x : Kno} (hx : x.Ok) : (y.putSlot d x).Ok :=
  ⟨h.reg, fun i hi => by show (if i = d then x else y.slot i).Ok; split; exact hx; exact h.slot i hi⟩
theorem Way.Ok.lose {y : Way} (h : y.Ok) : y.lose.Ok :=
  ⟨fun i hi => by show (if 1 ≤ i ∧ i ≤ 5 then kno0 else y.reg i).Ok; split; exact kno0_ok; exact h.reg i hi, h.slot⟩
theorem joinFrom_ok : ∀ (l : List Kno) (p : Int × Int), (∀ x, x ∈ l → x.Ok) → In64 p.1 → In64 p.2 → p.1 ≤ p.2 → In64 (joinFrom p l).1 ∧ In64 (joinFrom p l).2 ∧ (joinFrom p l).1 ≤ (joinFrom p l).2
  | [], _, _, h1, h2, h3 => ⟨h1, h2, h3⟩
  | x :: l, p, hl, h1, h2, h3 => by
    rw [joinFrom]
    have hx := hl x mcS
    have k1 := hx.2.2.1
    have k2 := hx.2.2.2.1
    have k3 := hx.2.2.2.2
    refine joinFrom_ok l _ (fun z hz => hl z (mcO _ hz)) ?_ ?_ ?_
    · show In64 (min p.1 x.l)
      unfold In64 at *; omega
    · show In64 (max p.2 x.h)
      unfold In64 at *; omega
    · show min p.1 x.l ≤ max p.2 x.h
      omega
theorem joinL_ok {l : List Kno} (hl : ∀ x, x ∈ l → x.Ok) : In64 (joinL l).1 ∧ In64 (joinL l).2 ∧ (joinL l).1 ≤ (joinL l).2 := by
  cases l with
  | nil => exact ⟨⟨by decide, by decide⟩, ⟨by decide, by decide⟩, by decide⟩
  | cons x l =>
    have hx := hl x mcS
    exact joinFrom_ok l _ (fun z hz => hl z (mcO _ hz)) hx.2.2.1 hx.2.2.2.1 hx.2.2.2.2
theorem kept_ok {y : Way} {p : Int × Int} (hk : y.Ok) (h0 : -16 ≤ p.1) (h3 : p.2 ≤ -1) (h : p.1 ≤ p.2) : (y.kept p).1.Ok := by
  unfold Way.kept
  split
  · exact hk.slot _ (by omega)
  split
  · exact kno0_ok
  · have hj := joinL_ok (l := y.row (p.1 + 16).toNat (p.2 - p.1 + 1).toNat) (fun x hx => by
      obtain ⟨i, hi, rfl⟩ := List.mem_map.mp hx
      obtain ⟨j, hj, e⟩ := List.mem_range'.mp hi
      exact hk.slot _ (by omega))
    exact knoNum_ok hj.1 hj.2.1 hj.2.2
theorem knoTo_ok {x : Kno} {o : Int} (hx : x.Ok) (ho : In64 o) : (knoTo x o).1 ≤ (knoTo x o).2 := (bdV_ok ⟨by decide, by decide⟩ hx.2.2.1 hx.2.2.2.1 hx.2.2.2.2 ho ho (Int.le_refl _)).2.2
theorem knoReach_in {x : Kno} {o : Int} (h : (knoReach x o).2 = 0) : (x.k ≠ 0 ∧ x.k ≠ 1 ∧ x.k ≠ 5) ∧ (knoReach x o).1 = knoTo x o ∧ (knoRoom x.k).1 ≤ (knoTo x o).1 ∧ (knoTo x o).2 ≤ (knoRoom x.k).2 := by
  unfold knoReach at h ⊢
  by_cases h0 : x.k = 0
  · rw [if_pos h0] at h; exact absurd h (by decide)
  rw [if_neg h0] at h ⊢
  by_cases h1 : x.k = 1 ∨ x.k = 5
  · rw [if_pos h1] at h; exact absurd h (by decide)
  rw [if_neg h1] at h ⊢
  by_cases h2 : (knoTo x o).1 < (knoRoom x.k).1 ∨ (knoRoom x.k).2 < (knoTo x o).2
  · rw [if_pos h2] at h; exact absurd h (by decide)
  rw [if_neg h2]
  exact ⟨by omega, rfl, by omega, by omega⟩
theorem load_ok {y : Way} {d s : Nat} {o : Int} (hk : y.Ok) (hs : s < 11) (ho : In64 o) : (y.load d s o).2.Ok := by
  unfold Way.load
  split
  · exact hk
  rename_i h
  have h' := Classical.byContradiction h
  split
  · rename_i h3
    split
    · exact hk
    · obtain ⟨-, e, r1, r2⟩ := knoReach_in h'
      rw [h3] at r1 r2
      rw [e]
      exact hk.putReg d (kept_ok hk r1 r2 (knoTo_ok (hk.reg s hs) ho))
  · exact hk.putReg d knoAll_ok
theorem store_ok {y : Way} {p v : Kno} {o : Int} (hk : y.Ok) (hv : v.Ok) : (y.store p v o).2.Ok := by
  unfold Way.store
  split
  · exact hk
  split
  · exact hk
  split
  · exact hk
  split
  · exact hk
  split
  · exact hk
  · exact hk.putSlot _ hv
theorem call_ok {y : Way} {what : Int} (hk : y.Ok) : (y.call what).2.Ok := by
  unfold Way.call
  split
  · exact hk
  split
  · exact hk.lose.putReg 0 ⟨by show (0 : Int) ≤ 5; decide, by show (5 : Int) ≤ 5; decide, ⟨by show -9223372036854775808 ≤ (0 : Int); decide, by show (0 : Int) ≤ 9223372036854775807; decide⟩, ⟨by show -9223372036854775808 ≤ (0 : Int); decide, by show (0 : Int) ≤ 9223372036854775807; decide⟩, by show (0 : Int) ≤ 0; decide⟩
  split
  · exact hk.lose.putReg 0 knoAll_ok
  · exact hk.lose.putReg 0 (knoOne_ok ⟨by decide, by decide⟩)
theorem change_ok {y : Way} {c : Int} {d s : Nat} {r : Bool} {n : Int} (hk : y.Ok) (hc : 1 ≤ c ∧ c ≤ 13) (hd : d < 11) (hs : s < 11) (hn : In64 n) : (y.change c d s r n).2.Ok := by
  unfold Way.change
  split
  · exact hk.putReg d (knoMakes_ok hc (hk.reg d hd) (second_ok hk hs hn))
  · exact hk
theorem narrow_ok {y : Way} {c : Int} {d s : Nat} {r : Bool} {n : Int} (hk : y.Ok) (hc : 15 ≤ c ∧ c ≤ 24) (hd : d < 11) (hs : s < 11) (hn : In64 n) : (y.narrow c d s r n).2.Ok := by
  have o1 := hk.reg d hd
  have o2 := second_ok (r := r) (n := n) hk hs hn
  have nl := (nar_left (x := (y.reg d).l) (y := (y.second s r n).l) hc o1.2.2.1.1 o1.2.2.2.1.2 o2.2.2.1.1 o2.2.2.2.1.2 (Int.le_refl _) o1.2.2.2.2 (Int.le_refl _) o2.2.2.2.2).2
  unfold Way.narrow
  split
  · exact hk
  rename_i h
  obtain ⟨n1, n2, n3, n4, n5, n6⟩ := nl (by cases e : (narV c (y.reg d).l (y.reg d).h (y.second s r n).l (y.second s r n).h).2.2 with | false => exact absurd e h | true => rfl)
  have q1 := o1.2.2.1
  have q2 := o1.2.2.2.1
  have q3 := o2.2.2.1
  have q4 := o2.2.2.2.1
  generalize narV c (y.reg d).l (y.reg d).h (y.second s r n).l (y.second s r n).h = z at *
  unfold In64 at q1 q2 q3 q4
  have w1 : (knoNum z.1.1 z.1.2).Ok := knoNum_ok ⟨by omega, by omega⟩ ⟨by omega, by omega⟩ n1
  have w2 : (knoNum z.2.1.1 z.2.1.2).Ok := knoNum_ok ⟨by omega, by omega⟩ ⟨by omega, by omega⟩ n2
  split
  · exact hk
  split
  · exact (hk.putReg d w1).putReg s w2
  · exact hk.putReg d w1
theorem ask_ok {y : Way} {c : Int} {d s : Nat} {r : Bool} {o n : Int} (hk : y.Ok) (hc : 15 ≤ c ∧ c ≤ 24) (hd : d < 11) (hs : s < 11) (hn : In64 n) : ∀ z, z ∈ (y.ask c d s r o n).1 → z.2.Ok := by
  intro z hz
  unfold Way.ask at hz
  split at hz
  · exact absurd hz (by simp)
  split at hz
  · unfold Way.askNumbers at hz
    have ho := opp_facts (x := 0) (y := 0) hc
    rcases List.mem_append.mp hz with hz | hz
    · split at hz
      · rw [List.mem_singleton.mp hz]; exact narrow_ok hk ho.2.2 hd hs hn
      · exact absurd hz (by simp)
    · split at hz
      · rw [List.mem_singleton.mp hz]; exact narrow_ok hk hc hd hs hn
      · exact absurd hz (by simp)
  split at hz
  · exact absurd hz (by simp)
  · unfold Way.askPlace at hz
    split at hz
    · rw [List.mem_singleton.mp hz]; exact hk
    · rcases List.mem_cons.mp hz with hz | hz
      · rw [hz]; exact hk.putReg d (knoOne_ok ⟨by decide, by decide⟩)
      · rw [List.mem_singleton.mp hz]
        exact hk.putReg d ⟨by show (0 : Int) ≤ 4; decide, by show (4 : Int) ≤ 5; decide, ⟨by show -9223372036854775808 ≤ (0 : Int); decide, by show (0 : Int) ≤ 9223372036854775807; decide⟩, ⟨by show -9223372036854775808 ≤ (0 : Int); decide, by show (0 : Int) ≤ 9223372036854775807; decide⟩, by show (0 : Int) ≤ 0; decide⟩
theorem look_ok {y : Way} {c : Int} {d s : Nat} {r : Bool} {o n : Int} (hk : y.Ok) (c1 : 1 ≤ c) (c2 : c ≤ 28) (hd : d < 11) (hs : s < 11) (ho : In64 o) (hn : In64 n) : ∀ z, z ∈ (y.look c d s r o n).1 → z.2.Ok := by
  intro z hz
  unfold Way.look at hz
  by_cases h1 : 15 ≤ c ∧ c ≤ 24
  · rw [if_pos h1] at hz; exact ask_ok hk h1 hd hs hn z hz
  rw [if_neg h1] at hz
  by_cases h2 : c = 14
  · rw [if_pos h2] at hz; rw [List.mem_singleton.mp hz]; exact hk
  rw [if_neg h2] at hz
  by_cases h3 : c = 28
  · rw [if_pos h3] at hz; exact absurd hz (by simp)
  rw [if_neg h3] at hz
  by_cases h4 : c = 25
  · rw [if_pos h4] at hz
    split at hz
    · rw [List.mem_singleton.mp hz]; exact load_ok hk hs ho
    · exact absurd hz (by simp)
  rw [if_neg h4] at hz
  by_cases h5 : c = 26
  · rw [if_pos h5] at hz
    split at hz
    · rw [List.mem_singleton.mp hz]; exact store_ok hk (second_ok hk hs hn)
    · exact absurd hz (by simp)
  rw [if_neg h5] at hz
  by_cases h6 : c = 27
  · rw [if_pos h6] at hz
    split at hz
    · rw [List.mem_singleton.mp hz]; exact call_ok hk
    · exact absurd hz (by simp)
  rw [if_neg h6] at hz
  split at hz
  · rw [List.mem_singleton.mp hz]; exact change_ok hk ⟨by omega, by omega⟩ hd hs hn
  · exact absurd hz (by simp)
theorem way0_ok : way0.Ok := by
  refine ⟨fun i _ => ?_, fun _ _ => kno0_ok⟩
  show (if i = 1 then (⟨2, 0, 0⟩ : Kno) else if i = 10 then ⟨3, 0, 0⟩ else kno0).Ok
  split
  · exact ⟨by decide, by decide, ⟨by decide, by decide⟩, ⟨by decide, by decide⟩, by decide⟩
  split
  · exact ⟨by decide, by decide, ⟨by decide, by decide⟩, ⟨by decide, by decide⟩, by decide⟩
  · exact kno0_ok
theorem go_from_start {C D S : Nat → Int} {R : Nat → Bool} {O N : Nat → Int} {len f : Nat} {E : List Kno} (hr : ∀ i, i < len → Right (C i) (D i) (S i) (R i) (O i) (N i) len i) (hf : ∀ i, i < len → In64 (O i) ∧ In64 (N i)) (h0 : 0 < len)
    (h : goF C D S R O N f [(0, way0)] [] = .inr E) (a : Abs) (ha : a.Ok) (hy : way0.Has a) :
    ∃ n k a', runF C D S R O N len 0 0 a = .fine n k a' ∧ 1 ≤ k ∧ k ≤ len ∧ ∃ b, b ∈ E ∧ b.l ≤ n ∧ n ≤ b.h := by
  obtain ⟨-, g⟩ := go_sound hr hf (fun i hi y hy z hz => by
    have r := hr i hi
    have d1 := r.d1
    have d2 := r.d2
    have s1 := r.s1
    have s2 := r.s2
    exact look_ok hy r.c1 r.c2 (by omega) (by omega) (hf i hi).1 (hf i hi).2 z hz) f _ _ E h (fun x hx => by rw [List.mem_singleton.mp hx]; exact ⟨h0, way0_ok⟩)
  obtain ⟨n, k, a', e1, e2, e3, e4⟩ := g (0, way0) (List.mem_singleton.mpr rfl) a 0 ha hy
  exact ⟨n, k, a', e1, by omega, by have : k + 0 ≤ 0 + len := e3; omega, e4⟩
end Go.Proofs.YtednmkhdehlojaaGreatDoor
namespace Go.Proofs.YtednmkhdehlojaaGreatDoor
open Go.ChangeShapes Go.WideShapes Go.ChangeAt Go.RowKit
attribute [local simp] drew_size drewN_size setCell_size
theorem vmakes_any (code : Int) (a b : Kno) (ka : a.Ok) (kb : b.Ok) (w : World) : Calls Tryz.prog 153 #[vI vK code, a.v, b.v] w fun e w' => e = .returned (.tuple #[(knoMakes code a b).1.v, vI vK (knoMakes code a b).2]) ∧ Below w.heap.size w w' := by
  obtain ⟨ak, al, ah⟩ := a
  obtain ⟨bk, bl, bh⟩ := b
  have HD := fun W : World => bdo_any code al ah bl bh ka.2.2.1.1 ka.2.2.1.2 ka.2.2.2.1.1 ka.2.2.2.1.2 kb.2.2.1.1 kb.2.2.1.2 kb.2.2.2.1.1 kb.2.2.2.1.2 ka.2.2.2.2 kb.2.2.2.2 W
  unfold knoMakes
  have tb : ∀ {x y : Int}, ¬ x = y → (x == y) = false := fun h => by simpa using h
  have tt : ∀ {x y : Int}, x = y → (x == y) = true := fun h => by simpa using h
  by_cases h0 : bk = 0
  · rw [if_pos (Or.inl h0)]; exact vmk_b0 code ak al ah bk bl bh (tt h0) w
  by_cases h1 : ak = 0
  · by_cases h2 : code = 1
    · rw [if_neg (by simp [h0, h2]), if_pos h2]; exact vmk_mova code ak al ah bk bl bh (tb h0) (tt h1) (by simp [h2]) (tt h2) w
    · rw [if_pos (Or.inr ⟨h1, h2⟩)]; exact vmk_a0 code ak al ah bk bl bh (tb h0) (tt h1) (by simpa using h2) w
  by_cases h2 : code = 1
  · rw [if_neg (by simp [h0, h1]), if_pos h2]; exact vmk_movb code ak al ah bk bl bh (tb h0) (tb h1) (tt h2) w
  rw [if_neg (by simp [h0, h1]), if_neg h2]
  generalize bdV code al ah bl bh = t at *
  obtain ⟨dl, dh⟩ := t
  have pf : ∀ {k : Int}, ¬ (k = 2 ∨ k = 3 ∨ k = 4) → isPlaceB k = false := fun {k} h => by
    cases e : isPlaceB k
    · rfl
    · exact absurd ((isPlaceB_iff k).1 e) h
  by_cases h3 : ak = 1
  · have pa : isPlaceB ak = false := pf (by omega)
    by_cases h4 : bk = 1
    · rw [if_pos ⟨h3, h4⟩]; exact vmk_nums code ak al ah bk bl bh dl dh HD (tb h0) (tb h1) (tb h2) (tt h3) (tt h4) w
    · rw [if_neg (fun e => h4 e.2), if_neg (by show ¬ ((ak = 2 ∨ ak = 3 ∨ ak = 4) ∧ bk = 1 ∧ (code = 2 ∨ code = 3)); omega)]
      by_cases h5 : bk = 2 ∨ bk = 3 ∨ bk = 4
      · by_cases h6 : code = 2
        · rw [if_pos ⟨h3, h5, h6⟩]
          rcases hF : knoFurther bk (dl, dh) with ⟨⟨gk, gl, gh⟩, E⟩
          exact vmk_nadd code ak al ah bk bl bh dl dh HD gk gl gh E hF pa ((isPlaceB_iff bk).2 h5) (tb h0) (tb h1) (tb h2) (tt h3) (tb h4) (tt h6) w
        · rw [if_neg (fun e => h6 e.2.2)]; exact vmk_nno code ak al ah bk bl bh pa ((isPlaceB_iff bk).2 h5) (tb h0) (tb h1) (tb h2) (tt h3) (tb h4) (tb h6) w
      · rw [if_neg (fun e => h5 e.2.1)]; exact vmk_nb code ak al ah bk bl bh pa (pf h5) (tb h0) (tb h1) (tb h2) (tt h3) (tb h4) w
  · rw [if_neg (fun e => h3 e.1)]
    by_cases h5 : ak = 2 ∨ ak = 3 ∨ ak = 4
    · have pa := (isPlaceB_iff ak).2 h5
      by_cases h4 : bk = 1
      · by_cases h6 : code = 2
        · rw [if_pos ⟨h5, h4, Or.inl h6⟩]
          rcases hF : knoFurther ak (dl, dh) with ⟨⟨gk, gl, gh⟩, E⟩
          exact vmk_padd code ak al ah bk bl bh dl dh HD gk gl gh E hF pa (tb h0) (tb h1) (tb h2) (tb h3) (tt h4) (tt h6) w
        · by_cases h7 : code = 3
          · rw [if_pos ⟨h5, h4, Or.inr h7⟩]
            rcases hF : knoFurther ak (dl, dh) with ⟨⟨gk, gl, gh⟩, E⟩
            exact vmk_psub code ak al ah bk bl bh dl dh HD gk gl gh E hF pa (tb h0) (tb h1) (tb h2) (tb h3) (tt h4) (tb h6) (tt h7) w
          · rw [if_neg (fun e => e.2.2.elim h6 h7), if_neg (fun e => h3 e.1)]; exact vmk_pno code ak al ah bk bl bh pa (tb h0) (tb h1) (tb h2) (tb h3) (tt h4) (tb h6) (tb h7) w
      · rw [if_neg (fun e => h4 e.2.1), if_neg (fun e => h3 e.1)]; exact vmk_pb code ak al ah bk bl bh pa (tb h0) (tb h1) (tb h2) (tb h3) (tb h4) w
    · rw [if_neg (fun e => h5 e.1), if_neg (fun e => h3 e.1)]; exact vmk_m code ak al ah bk bl bh (pf h5) (tb h0) (tb h1) (tb h2) (tb h3) w
theorem vsecond_reg (B s : Nat) (c d o n p : Int) (y : Way) (hs : s < 11) (w : World) (hW : WayAt w B p y) :
    Calls Tryz.prog 146 #[.pointer (some ⟨B, 0, none⟩), .agg #[vI vK c, vI vK d, vI vK s, .bool true, vI vK o, vI vK n]] w fun e w' => e = .returned (y.reg s).v ∧ Below w.heap.size w w' := by
  have hK0 : Blk w [(w.heap.size, .cells #[vI vK c, vI vK d, vI vK s, .bool true, vI vK o, vI vK n] 49 (0, 0)), (w.heap.size + 1, .cells #[vI vK 0, vI vK 0, vI vK 0] 146 (0, 0)), (B, .cells (wayCs p y) 150 (0, 0))] _ := (((Blk.nil (((bF _ _).alloc (Nat.le_refl _) _).alloc (by simp) _)).cons ((hW.alloc _).alloc _)).cons (heap_alloc2_new w (.cells #[vI vK c, vI vK d, vI vK s, .bool true, vI vK o, vI vK n] 49) (.cells #[vI vK 0, vI vK 0, vI vK 0] 146))).cons (by rw [Below.heap_alloc _ _ _ (by simp)]; exact heap_alloc_new _ _)
  have hB := hW.lt
  have hs0 : (0 : Int) ≤ (s : Int) := by omega
  have hs1 : (s : Int) < 11 := by omega
  go_enter Tryz.func146, Tryz.ntmps146
  have hC := hK0
  obtain ⟨p0, p1, p2, p3, p4, p5, ltS⟩ := row6 (hC.2 _ mcS); obtain ⟨z0, z1, z2, zf0, zf1, zf2, zlt⟩ := row3 (hC.2 _ (mcO _ mcS)); have yW : WayAt _ B _ _ := (hC.2 _ (mcO _ (mcO _ mcS))); have ylt := yW.lt; obtain ⟨i0, i1, i2⟩ := yW.reg hs
  go_wp2_with fail
  clear p0 p1 p2 p3 p4 p5 ltS z0 z1 z2 zf0 zf1 zf2 zlt yW ylt i0 i1 i2 hC
  refine wp_float (C := Blk w [(w.heap.size, .cells #[vI vK c, vI vK d, vI vK s, .bool true, vI vK o, vI vK n] 49 (0, 0)), (w.heap.size + 1, .cells #[vI vK 0, vI vK 0, vI vK 0] 146 (0, 0)), (B, .cells (wayCs p y) 150 (0, 0))]) (n0 := w.heap.size) 7 [] [] (by kernel_rfl) (by kernel_rfl) (fun d _ _ _ _ h => by cases d <;> exact h) (Blk.stable _ _) (Blk.room0 _ _) hK0.drew trivial ?_
  simp only [List.take_succ_cons, List.take_zero, List.drop_succ_cons, List.drop_zero, List.length_nil, Nat.reduceAdd]
  repeat (first
    | (refine wpQ_skip (by rfl) ?_; simp only [Act.put, siA, scZ, scS])
    | (refine wpQ_yield (by rfl) (v := ?_) ?_ ?_; rotate_left; (intro w2 hC; obtain ⟨p0, p1, p2, p3, p4, p5, ltS⟩ := row6 (hC.2 _ mcS); obtain ⟨z0, z1, z2, zf0, zf1, zf2, zlt⟩ := row3 (hC.2 _ (mcO _ mcS)); have yW : WayAt _ B _ _ := (hC.2 _ (mcO _ (mcO _ mcS))); have ylt := yW.lt; obtain ⟨i0, i1, i2⟩ := yW.reg hs; go_simp; try with_reducible rfl); simp only [Act.put, siA, scZ, scS]))
  refine wpQ_nil ?_
  intro w3 hC hB3
  obtain ⟨p0, p1, p2, p3, p4, p5, ltS⟩ := row6 (hC.2 _ mcS); obtain ⟨z0, z1, z2, zf0, zf1, zf2, zlt⟩ := row3 (hC.2 _ (mcO _ mcS)); have yW : WayAt _ B _ _ := (hC.2 _ (mcO _ (mcO _ mcS))); have ylt := yW.lt; obtain ⟨i0, i1, i2⟩ := yW.reg hs
  have hbw := hC.1
  go_wp2_with fail
  exact bodyPost_ret (v := (y.reg s).v) (by simp [results, Tryz.results146, go_sem, Kno.v, *]) rfl ⟨rfl, (by repeat' first | with_reducible (first | exact hbw | exact bF _ _ | refine bA ?_ ?_ _ | refine bS ?_ ?_ _ | refine bD ?_) | ((try dsimp only); omega) | (simp; done) | (simp; omega))⟩
theorem vsecond_num (B : Nat) (c d s o n : Int) (w : World) :
    Calls Tryz.prog 146 #[.pointer (some ⟨B, 0, none⟩), .agg #[vI vK c, vI vK d, vI vK s, .bool false, vI vK o, vI vK n]] w fun e w' => e = .returned (knoNum n n).v ∧ Below w.heap.size w w' := by
  have hK0 : Blk w [(w.heap.size, .cells #[vI vK c, vI vK d, vI vK s, .bool false, vI vK o, vI vK n] 49 (0, 0)), (w.heap.size + 1, .cells #[vI vK 0, vI vK 0, vI vK 0] 146 (0, 0))] _ := ((Blk.nil (((bF _ _).alloc (Nat.le_refl _) _).alloc (by simp) _)).cons (heap_alloc2_new w (.cells #[vI vK c, vI vK d, vI vK s, .bool false, vI vK o, vI vK n] 49) (.cells #[vI vK 0, vI vK 0, vI vK 0] 146))).cons (by rw [Below.heap_alloc _ _ _ (by simp)]; exact heap_alloc_new _ _)
  go_enter Tryz.func146, Tryz.ntmps146
  go_wp2_with (first
    | (go_at_call 37; go_must (refine (one_is _ _).mono ?_; rintro e w1 ⟨rfl, hb1⟩; have hK1 := hK0.later hb1))
    | (go_at_call 150; go_must (refine (vnumber_any _ _ _).mono ?_; rintro e w2 ⟨rfl, hb2⟩; simp only [Kno.v, knoNum]; have hK2 := hK1.later hb2; have hbw := hK2.1; obtain ⟨z0, z1, z2, zf0, zf1, zf2, zlt⟩ := row3 (hK2.2 _ (mcO _ mcS))))
    | fail)
  exact bodyPost_ret (v := (knoNum n n).v) (by simp [results, Tryz.results146, go_sem, Kno.v, knoNum, *]) rfl ⟨rfl, (by repeat' first | with_reducible (first | exact hbw | exact bF _ _ | refine bA ?_ ?_ _ | refine bS ?_ ?_ _ | refine bD ?_ | refine below_setRow ?_ ?_ _) | ((try dsimp only); omega) | (simp; done) | (simp; omega))⟩
theorem vsecond_any (B s : Nat) (c d o n : Int) (r : Bool) (p : Int) (y : Way) (hs : s < 11) (w : World) (hW : WayAt w B p y) :
    Calls Tryz.prog 146 #[.pointer (some ⟨B, 0, none⟩), .agg #[vI vK c, vI vK d, vI vK s, .bool r, vI vK o, vI vK n]] w fun e w' => e = .returned (y.second s r n).v ∧ Below w.heap.size w w' := by
  cases r with
  | true => exact vsecond_reg B s c d o n p y hs w hW
  | false => exact vsecond_num B c d s o n w
theorem vchange_no (B d s : Nat) (c o n p : Int) (r : Bool) (y : Way) (hd : d < 11) (hs : s < 11) (mk ml mh E : Int) (HM : Hid (∀ W : World, Calls Tryz.prog 153 #[vI vK c, .agg #[vI vK (y.reg d).k, vI vK (y.reg d).l, vI vK (y.reg d).h], (y.second s r n).v] W fun e w' => e = .returned (.tuple #[.agg #[vI vK mk, vI vK ml, vI vK mh], vI vK E]) ∧ Below W.heap.size W w')) (hE : (E == 0) = false) (w : World) (hW : WayAt w B p y) :
    Calls Tryz.prog 111 #[.pointer (some ⟨B, 0, none⟩), .agg #[vI vK c, vI vK d, vI vK s, .bool r, vI vK o, vI vK n]] w fun e w' => e = .returned (vI vK E) ∧ Below w.heap.size w w' := by
  have hK0 : Blk w [(w.heap.size, .cells #[vI vK c, vI vK d, vI vK s, .bool r, vI vK o, vI vK n] 49 (0, 0)), (B, .cells (wayCs p y) 150 (0, 0))] _ := ((Blk.nil ((bF _ _).alloc (Nat.le_refl _) _)).cons (hW.alloc _)).cons (heap_alloc_new w (.cells #[vI vK c, vI vK d, vI vK s, .bool r, vI vK o, vI vK n] 49))
  have hB := hW.lt
  have hs0 : (0 : Int) ≤ (s : Int) := by omega
  have hs1 : (s : Int) < 11 := by omega
  have hd0 : (0 : Int) ≤ (d : Int) := by omega
  have hd1 : (d : Int) < 11 := by omega
  go_enter Tryz.func111, Tryz.ntmps111
  go_wp2_with fail
  refine wp_float (C := Blk w [(w.heap.size, .cells #[vI vK c, vI vK d, vI vK s, .bool r, vI vK o, vI vK n] 49 (0, 0)), (B, .cells (wayCs p y) 150 (0, 0))]) (n0 := w.heap.size + 1) 16 [15] [.cells #[vI vK 0, vI vK 0, vI vK 0] 146 (0, 0)] (by kernel_rfl) (by kernel_rfl) (fun d _ _ _ _ h => by cases d <;> exact h) (Blk.stable _ _) (Blk.room w mcS) hK0.drew ⟨⟨rfl, fun a w2 hC => by go_simp; try rfl⟩, trivial⟩ ?_
  simp only [List.take_succ_cons, List.take_zero, List.drop_succ_cons, List.drop_zero, List.length_cons, List.length_nil, Nat.reduceAdd]
  repeat (first
    | (refine wpQ_skip (by rfl) ?_; simp only [Act.put, siA, scZ, scS])
    | (refine wpQ_yield (by rfl) (v := ?_) ?_ ?_; rotate_left; (intro w2 hC; obtain ⟨p0, p1, p2, p3, p4, p5, ltS⟩ := row6 (hC.2 _ mcS); have yW : WayAt _ B _ _ := (hC.2 _ (mcO _ mcS)); have ylt := yW.lt; obtain ⟨i0, i1, i2⟩ := yW.reg hd; go_simp; try with_reducible rfl); simp only [Act.put, siA, scZ, scS])
    | (refine wpQ_enter (by rfl) ?_; apply Exists.intro; refine ⟨fun w2 hC => ?_, ?_⟩; (obtain ⟨p0, p1, p2, p3, p4, p5, ltS⟩ := row6 (hC.2 _ mcS); have yW : WayAt _ B _ _ := (hC.2 _ (mcO _ mcS)); have ylt := yW.lt; obtain ⟨i0, i1, i2⟩ := yW.reg hd; go_simp; apply qb_enter; first | (go_at_call 146; exact vsecond_any B s c d o n r p y hs w2 yW) | (go_at_call 153; exact HM.out w2)); simp only [Act.put, siA, scZ, scS]))
  refine wpQ_nil ?_
  intro L h5 g5 w3 hC hB3
  have bL := hB3 L _ (FB.at_new _ _ _)
  obtain ⟨l0, l1, l2, lf0, lf1, lf2, llt⟩ := row3 bL
  obtain ⟨p0, p1, p2, p3, p4, p5, ltS⟩ := row6 (hC.2 _ mcS); have yW : WayAt _ B _ _ := (hC.2 _ (mcO _ mcS)); have ylt := yW.lt; obtain ⟨i0, i1, i2⟩ := yW.reg hd
  have hbw := hC.1
  have n1 : w.heap.size ≠ L := by omega
  have n2 : B ≠ L := by omega
  simp only [ptrTo]
  go_wp2_with fail
  go_ret
  exact ⟨rfl, (by repeat' first | with_reducible (first | exact hbw | exact bF _ _ | refine bA ?_ ?_ _ | refine bS ?_ ?_ _ | refine bD ?_ | refine below_setRow ?_ ?_ _) | ((try dsimp only); omega) | (simp; done) | (simp; omega))⟩
theorem vchange_yes (B d s : Nat) (c o n p : Int) (r : Bool) (y : Way) (hd : d < 11) (hs : s < 11) (mk ml mh E : Int) (HM : Hid (∀ W : World, Calls Tryz.prog 153 #[vI vK c, .agg #[vI vK (y.reg d).k, vI vK (y.reg d).l, vI vK (y.reg d).h], (y.second s r n).v] W fun e w' => e = .returned (.tuple #[.agg #[vI vK mk, vI vK ml, vI vK mh], vI vK E]) ∧ Below W.heap.size W w')) (hE : (E == 0) = true) (w : World) (hW : WayAt w B p y) :
    Calls Tryz.prog 111 #[.pointer (some ⟨B, 0, none⟩), .agg #[vI vK c, vI vK d, vI vK s, .bool r, vI vK o, vI vK n]] w fun e w' => e = .returned (vI vK 0) ∧ Kept B w w' ∧ WayAt w' B p (y.putReg d ⟨mk, ml, mh⟩) := by
  have hK0 : Blk w [(w.heap.size, .cells #[vI vK c, vI vK d, vI vK s, .bool r, vI vK o, vI vK n] 49 (0, 0)), (B, .cells (wayCs p y) 150 (0, 0))] _ := ((Blk.nil ((bF _ _).alloc (Nat.le_refl _) _)).cons (hW.alloc _)).cons (heap_alloc_new w (.cells #[vI vK c, vI vK d, vI vK s, .bool r, vI vK o, vI vK n] 49))
  have hB := hW.lt
  have hs0 : (0 : Int) ≤ (s : Int) := by omega
  have hs1 : (s : Int) < 11 := by omega
  have hd0 : (0 : Int) ≤ (d : Int) := by omega
  have hd1 : (d : Int) < 11 := by omega
  go_enter Tryz.func111, Tryz.ntmps111
  go_wp2_with fail
  refine wp_float (C := Blk w [(w.heap.size, .cells #[vI vK c, vI vK d, vI vK s, .bool r, vI vK o, vI vK n] 49 (0, 0)), (B, .cells (wayCs p y) 150 (0, 0))]) (n0 := w.heap.size + 1) 16 [15] [.cells #[vI vK 0, vI vK 0, vI vK 0] 146 (0, 0)] (by kernel_rfl) (by kernel_rfl) (fun d _ _ _ _ h => by cases d <;> exact h) (Blk.stable _ _) (Blk.room w mcS) hK0.drew ⟨⟨rfl, fun a w2 hC => by go_simp; try rfl⟩, trivial⟩ ?_
  simp only [List.take_succ_cons, List.take_zero, List.drop_succ_cons, List.drop_zero, List.length_cons, List.length_nil, Nat.reduceAdd]
  repeat (first
    | (refine wpQ_skip (by rfl) ?_; simp only [Act.put, siA, scZ, scS])
    | (refine wpQ_yield (by rfl) (v := ?_) ?_ ?_; rotate_left; (intro w2 hC; obtain ⟨p0, p1, p2, p3, p4, p5, ltS⟩ := row6 (hC.2 _ mcS); have yW : WayAt _ B _ _ := (hC.2 _ (mcO _ mcS)); have ylt := yW.lt; obtain ⟨i0, i1, i2⟩ := yW.reg hd; go_simp; try with_reducible rfl); simp only [Act.put, siA, scZ, scS])
    | (refine wpQ_enter (by rfl) ?_; apply Exists.intro; refine ⟨fun w2 hC => ?_, ?_⟩; (obtain ⟨p0, p1, p2, p3, p4, p5, ltS⟩ := row6 (hC.2 _ mcS); have yW : WayAt _ B _ _ := (hC.2 _ (mcO _ mcS)); have ylt := yW.lt; obtain ⟨i0, i1, i2⟩ := yW.reg hd; go_simp; apply qb_enter; first | (go_at_call 146; exact vsecond_any B s c d o n r p y hs w2 yW) | (go_at_call 153; exact HM.out w2)); simp only [Act.put, siA, scZ, scS]))
  refine wpQ_nil ?_
  intro L h5 g5 w3 hC hB3
  have bL := hB3 L _ (FB.at_new _ _ _)
  obtain ⟨l0, l1, l2, lf0, lf1, lf2, llt⟩ := row3 bL
  obtain ⟨p0, p1, p2, p3, p4, p5, ltS⟩ := row6 (hC.2 _ mcS); have yW : WayAt _ B _ _ := (hC.2 _ (mcO _ mcS)); have ylt := yW.lt; obtain ⟨i0, i1, i2⟩ := yW.reg hd
  have hbw := hC.1
  have n1 : w.heap.size ≠ L := by omega
  have n2 : B ≠ L := by omega
  simp only [ptrTo]
  go_wp2_with fail
  have hK3 : Blk w [(w.heap.size, .cells #[vI vK c, vI vK d, vI vK s, .bool r, vI vK o, vI vK n] 49 (0, 0)), (B, .cells (wayCs p y) 150 (0, 0)), (L, .cells #[vI vK mk, vI vK ml, vI vK mh] 146 (0, 0))] _ := (((Blk.nil (by repeat' first | with_reducible (first | exact hbw | exact bF _ _ | refine bA ?_ ?_ _ | refine bS ?_ ?_ _ | refine bD ?_ | refine below_setRow ?_ ?_ _) | ((try dsimp only); omega) | (simp; done) | (simp; omega))).cons (put3 bL)).cons (off3 (hC.2 _ (mcO _ mcS)) n2)).cons (off3 (hC.2 _ mcS) n1)
  clear l0 l1 l2 lf0 lf1 lf2 llt p0 p1 p2 p3 p4 p5 ltS yW ylt i0 i1 i2 hC hbw bL hB3
  refine wp_float (C := Blk w [(w.heap.size, .cells #[vI vK c, vI vK d, vI vK s, .bool r, vI vK o, vI vK n] 49 (0, 0)), (B, .cells (wayCs p y) 150 (0, 0)), (L, .cells #[vI vK mk, vI vK ml, vI vK mh] 146 (0, 0))]) (n0 := w.heap.size) 7 [] [] (by kernel_rfl) (by kernel_rfl) (fun d _ _ _ _ h => by cases d <;> exact h) (Blk.stable _ _) (Blk.room0 _ _) hK3.drew trivial ?_
  simp only [List.take_succ_cons, List.take_zero, List.drop_succ_cons, List.drop_zero, List.length_nil, Nat.reduceAdd]
  repeat (first
    | (refine wpQ_skip (by rfl) ?_; simp only [Act.put, siA, scZ, scS])
    | (refine wpQ_yield (by rfl) (v := ?_) ?_ ?_; rotate_left; (intro w2 hC; obtain ⟨p0, p1, p2, p3, p4, p5, ltS⟩ := row6 (hC.2 _ mcS); have yW : WayAt _ B _ _ := (hC.2 _ (mcO _ mcS)); have ylt := yW.lt; obtain ⟨i0, i1, i2⟩ := yW.reg hd; obtain ⟨l0, l1, l2, lf0, lf1, lf2, llt⟩ := row3 (hC.2 _ (mcO _ (mcO _ mcS))); go_simp; try with_reducible rfl); simp only [Act.put, siA, scZ, scS]))
  refine wpQ_nil ?_
  intro w4 hC hB4
  obtain ⟨p0, p1, p2, p3, p4, p5, ltS⟩ := row6 (hC.2 _ mcS); have yW : WayAt _ B _ _ := (hC.2 _ (mcO _ mcS)); have ylt := yW.lt; obtain ⟨i0, i1, i2⟩ := yW.reg hd; obtain ⟨l0, l1, l2, lf0, lf1, lf2, llt⟩ := row3 (hC.2 _ (mcO _ (mcO _ mcS)))
  have if0 := yW.frozen (1 + d * 3); have if1 := yW.frozen (1 + d * 3 + 1); have if2 := yW.frozen (1 + d * 3 + 2)
  have HK := kept_below hC.1 B
  go_wp2_with fail
  go_ret
  exact ⟨by have := eq_of_beq hE; subst this; rfl, (by repeat' first | with_reducible (first | exact HK | refine kept_drew ?_ | refine kept_set ?_ _ _ | refine kept_new ?_ _ _ ?_ | refine kept_alloc ?_ _) | ((try dsimp only); omega) | (simp; omega)), yW.reg3 hd mk ml mh⟩
theorem vchange_all {B d s : Nat} {c o n p : Int} {r : Bool} {y : Way} (hd : d < 11) (hs : s < 11) (hy : y.Ok) (hn : In64 n) {w : World} (hW : WayAt w B p y) :
    Calls Tryz.prog 111 #[.pointer (some ⟨B, 0, none⟩), .agg #[vI vK c, vI vK d, vI vK s, .bool r, vI vK o, vI vK n]] w fun e w' => e = .returned (vI vK (y.change c d s r n).1) ∧ Kept B w w' ∧ WayAt w' B p (y.change c d s r n).2 := by
  have HM := fun W : World => vmakes_any c (y.reg d) (y.second s r n) (hy.reg d hd) (second_ok hy hs hn) W
  unfold Way.change
  rcases e : knoMakes c (y.reg d) (y.second s r n) with ⟨⟨mk, ml, mh⟩, E⟩
  rw [e] at HM
  by_cases h : E = 0
  · rw [if_pos h]
    exact vchange_yes B d s c o n p r y hd hs mk ml mh E HM (by simpa using h) w hW
  · rw [if_neg h]
    exact (vchange_no B d s c o n p r y hd hs mk ml mh E HM (by simpa using h) w hW).mono fun e w' ⟨h1, h2⟩ => ⟨h1, kept_below h2 B, hW.later h2⟩
def joinTo (f : Nat → Int × Int) : Nat → Int × Int
  | 0 => (0, 0)
  | k + 1 => if k = 0 then f 0 else (min (joinTo f k).1 (f k).1, max (joinTo f k).2 (f k).2)
theorem joinTo_one (f : Nat → Int × Int) : joinTo f 1 = f 0 := if_pos rfl
theorem joinTo_more (f : Nat → Int × Int) {k : Nat} (h : k ≠ 0) : joinTo f (k + 1) = (min (joinTo f k).1 (f k).1, max (joinTo f k).2 (f k).2) := if_neg h
theorem joined_nil (p : Option Addr) (cap : Nat) (w : World) : Calls Tryz.prog 36 #[.slice p 0 cap] w fun e w' => e = .returned (.agg #[vI vK 0, vI vK 0]) ∧ Below w.heap.size w w' := by
  go_enter Tryz.func36, Tryz.ntmps36
  go_wp2_with fail
  refine wp_loop_rounds 1 ?_
  rw [rounds_succ]
  go_wp2_with fail
  exact bodyPost_ret (v := .agg #[vI vK 0, vI vK 0]) (by simp [results, Tryz.results36, go_sem]) rfl ⟨rfl, (by repeat' first | with_reducible (first | exact bF _ _ | refine bA ?_ ?_ _ | refine bS ?_ ?_ _ | refine bD ?_ | refine below_setRow ?_ ?_ _) | ((try dsimp only); omega) | (simp; done) | (simp; omega))⟩
theorem joined_some (g n cap : Nat) (f : Nat → Int × Int) (h1 : 1 ≤ n) (h2 : n ≤ 1000000) (w : World) (hg : g < w.heap.size) (hc : ∀ i, i < n → w.cell? ⟨g, i * 2, none⟩ = some (vI vK (f i).1) ∧ w.cell? ⟨g, i * 2 + 1, none⟩ = some (vI vK (f i).2)) :
    Calls Tryz.prog 36 #[.slice (some ⟨g, 0, none⟩) n cap] w fun e w' => e = .returned (.agg #[vI vK (joinTo f n).1, vI vK (joinTo f n).2]) ∧ Below w.heap.size w w' := by
  have HC : Hid (∀ i, i < n → w.cell? ⟨g, i * 2, none⟩ = some (vI vK (f i).1) ∧ w.cell? ⟨g, i * 2 + 1, none⟩ = some (vI vK (f i).2)) := hc
  have hK0 : Blk w [(w.heap.size, .cells #[vI vK 0, vI vK 0] 43 (0, 0)), (w.heap.size + 1, .cells #[vI vK (joinTo f 0).1, vI vK (joinTo f 0).2] 43 (0, 0))] _ := ((Blk.nil (((bF _ _).alloc (Nat.le_refl _) _).alloc (by simp) _)).cons (heap_alloc2_new w (.cells #[vI vK 0, vI vK 0] 43) (.cells #[vI vK 0, vI vK 0] 43))).cons (by rw [Below.heap_alloc _ _ _ (by simp)]; exact heap_alloc_new _ _)
  have HK0 : Hid (Blk w [(w.heap.size, .cells #[vI vK 0, vI vK 0] 43 (0, 0)), (w.heap.size + 1, .cells #[vI vK (joinTo f 0).1, vI vK (joinTo f 0).2] 43 (0, 0))] _) := hK0
  clear hc hK0
  go_enter Tryz.func36, Tryz.ntmps36
  go_wp2_with fail
  go_loopw [8] (fun i wr => ∃ k : Nat, i = vI vK k ∧ k ≤ n ∧ Hid (Blk w [(w.heap.size, .cells #[vI vK 0, vI vK 0] 43 (0, 0)), (w.heap.size + 1, .cells #[vI vK (joinTo f k).1, vI vK (joinTo f k).2] 43 (0, 0))] wr)) (fun i _ => n - (intOf i).toNat)
  case atStart => exact ⟨0, rfl, by omega, HK0.out⟩
  case round =>
    obtain ⟨k, rfl, hk, H⟩ := hrel
    have hK := H.out
    clear HK0
    have hk0 : (0 : Int) ≤ (k : Int) := by omega
    by_cases hlt : k < n
    · have hlt' : (k : Int) < (n : Int) := by omega
      have c0 := (hK.1.cell (p := ⟨g, k * 2, none⟩) hg).trans (HC.out k hlt).1
      have c1 := (hK.1.cell (p := ⟨g, k * 2 + 1, none⟩) hg).trans (HC.out k hlt).2
      have hg2 := Nat.lt_of_lt_of_le hg hK.1.size
      obtain ⟨r0, r1, rf0, rf1, rlt⟩ := row2 (hK.2 _ mcS); obtain ⟨a0, a1, af0, af1, alt⟩ := row2 (hK.2 _ (mcO _ mcS))
      by_cases hz : k = 0
      · subst hz
        simp only [Nat.zero_mul, Nat.zero_add] at c0 c1
        go_wp2_with (first
          | (go_at_call 67; go_must (refine (join_is _ _ _ _ _).mono ?_; rintro e w2 ⟨rfl, hb2⟩; have hK2 := Blk.later (Blk.later (((Blk.nil ((hK.1.setCell (by show _ ≤ w.heap.size + 1; omega) _).setCell (by show _ ≤ w.heap.size + 1; omega) _)).cons (put2 (hK.2 _ (mcO _ mcS)))).cons (off2 (hK.2 _ mcS) (by omega))) ((bF _ _).alloc (Nat.le_refl _) _)) hb2; clear r0 r1 rf0 rf1 rlt a0 a1 af0 af1 alt; obtain ⟨r0, r1, rf0, rf1, rlt⟩ := row2 (hK2.2 _ mcS); obtain ⟨a0, a1, af0, af1, alt⟩ := row2 (hK2.2 _ (mcO _ mcS))))
          | fail)
        go_roundw
        case rel => exact ⟨1, by go_num, by omega, by rw [joinTo_one]; exact ((Blk.nil ((hK2.1.setCell (by show _ ≤ w.heap.size + 1; omega) _).setCell (by show _ ≤ w.heap.size + 1; omega) _)).cons (put2 (hK2.2 _ (mcO _ mcS)))).cons (off2 (hK2.2 _ mcS) (by omega))⟩
        case measure => simp [intOf]; omega
      · have hz' : ((k : Int) == 0) = false := by simpa using hz
        go_wp2_with (first
          | (go_at_call 67; go_must (refine (join_is _ _ _ _ _).mono ?_; rintro e w2 ⟨rfl, hb2⟩; have hK2 := Blk.later (hK.later ((bF _ _).alloc (Nat.le_refl _) _)) hb2; clear r0 r1 rf0 rf1 rlt a0 a1 af0 af1 alt; obtain ⟨r0, r1, rf0, rf1, rlt⟩ := row2 (hK2.2 _ mcS); obtain ⟨a0, a1, af0, af1, alt⟩ := row2 (hK2.2 _ (mcO _ mcS))))
          | fail)
        go_roundw
        case rel => exact ⟨k + 1, by go_num, by omega, by rw [joinTo_more f hz]; exact ((Blk.nil ((hK2.1.setCell (by show _ ≤ w.heap.size + 1; omega) _).setCell (by show _ ≤ w.heap.size + 1; omega) _)).cons (put2 (hK2.2 _ (mcO _ mcS)))).cons (off2 (hK2.2 _ mcS) (by omega))⟩
        case measure => simp [intOf]; omega
    · obtain rfl : k = n := by omega
      obtain ⟨r0, r1, rf0, rf1, rlt⟩ := row2 (hK.2 _ mcS); obtain ⟨a0, a1, af0, af1, alt⟩ := row2 (hK.2 _ (mcO _ mcS))
      have hbw := hK.1
      go_wp2_with fail
      exact bodyPost_ret (v := .agg #[vI vK (joinTo f k).1, vI vK (joinTo f k).2]) (by simp [results, Tryz.results36, go_sem, *]) rfl ⟨rfl, (by repeat' first | with_reducible (first | exact hbw | exact bF _ _ | refine bA ?_ ?_ _ | refine bS ?_ ?_ _ | refine bD ?_ | refine below_setRow ?_ ?_ _) | ((try dsimp only); omega) | (simp; done) | (simp; omega))⟩
def bdCells (f : Nat → Int × Int) : Nat → List Value
  | 0 => []
  | k + 1 => bdCells f k ++ [vI vK (f k).1, vI vK (f k).2]
theorem bdCells_len (f : Nat → Int × Int) : ∀ k, (bdCells f k).length = k * 2
  | 0 => rfl
  | k + 1 => by rw [bdCells, List.length_append, bdCells_len f k]; simp; omega
theorem bdCells_at (f : Nat → Int × Int) : ∀ k i, i < k → (bdCells f k)[i * 2]? = some (vI vK (f i).1) ∧ (bdCells f k)[i * 2 + 1]? = some (vI vK (f i).2)
  | 0, i, h => absurd h (by omega)
  | k + 1, i, h => by
    have hl := bdCells_len f k
    by_cases e : i = k
    · subst e
      constructor
      · rw [bdCells, List.getElem?_append_right (by omega), hl]; simp
      · rw [bdCells, List.getElem?_append_right (by omega), hl, show i * 2 + 1 - i * 2 = 1 by omega]; rfl
    · obtain ⟨h1, h2⟩ := bdCells_at f k i (by omega)
      constructor
      · rw [bdCells, List.getElem?_append_left (by omega)]; exact h1
      · rw [bdCells, List.getElem?_append_left (by omega)]; exact h2
theorem joined_own {w : World} {base k : Nat} {v : Value} {f : Nat → Int × Int} (h : w.ownsRow base 43 2 v k (bdCells f k)) (hk : k ≤ 1000000) : Calls Tryz.prog 36 #[v] w fun e w' => e = .returned (.agg #[vI vK (joinTo f k).1, vI vK (joinTo f k).2]) ∧ Below w.heap.size w w' := by
  rcases Nat.eq_zero_or_pos k with h0 | h0
  · subst h0
    rcases h.2 with ⟨hv, _⟩ | ⟨g, cap, cur, hv, _⟩
    · rw [hv]; exact joined_nil none 0 w
    · rw [hv]; exact joined_nil _ cap w
  · obtain ⟨g, cap, hv⟩ : ∃ g cap, v = .slice (some ⟨g, 0, none⟩) k cap := by
      rcases h.2 with ⟨_, hn⟩ | ⟨g, cap, cur, hv, _⟩
      · omega
      · exact ⟨g, cap, hv⟩
    subst hv
    refine joined_some g k cap f h0 hk w ((h.lt g rfl).2) fun i hi => ?_
    obtain ⟨a1, a2⟩ := bdCells_at f k i hi
    exact ⟨(h.cellAt (i * 2) (by omega)).trans a1, (h.cellAt (i * 2 + 1) (by omega)).trans a2⟩
theorem Blk.grown {w0 w w' : World} {F : List (Nat × Obj)} {row : Option Nat} {b : Nat} (h : Blk w0 F w) (hg : w.grownBy w' row) (hr : ∀ k, row = some k → b ≤ k) (h0 : w0.heap.size ≤ b) (hF : ∀ x, x ∈ F → x.1 < b) : Blk w0 F w' :=
  ⟨h.1.grown hg h.1.size (fun k hk => Nat.le_trans h0 (hr k hk)), fun x hx => (hg.block x.1 (Array.getElem?_eq_some_iff.1 (h.2 x hx)).1 (fun e => by have := hr x.1 e.symm; have := hF x hx; omega)).trans (h.2 x hx)⟩
theorem cell_two {w : World} {x y : Value} {e : TypeId} {b : Nat} (hb : b = w.heap.size) : ∀ (j : Nat) u, [x, y][j]? = some u → (w.alloc (.cells #[x, y] e)).cell? ((⟨b, 0, none⟩ : Addr).add j) = some u := by
  subst hb
  intro j u hj
  match j, hj with
  | 0, hj => simp at hj; subst hj; simp [Addr.add]
  | 1, hj => simp at hj; subst hj; simp [Addr.add]
theorem Tryz.infoB : (Tryz.prog.info? 43).map (fun i => (i.zero, i.size, i.bytes)) = some (some (.agg #[vI vK 0, vI vK 0]), 2, 16) := by kernel_rfl
def wantAt (y : Way) (t j : Nat) : Int := knoWant (y.slot (t + j))
def bdAt (y : Way) (t j : Nat) : Int × Int := ((y.slot (t + j)).l, (y.slot (t + j)).h)
theorem vkept_one (B t : Nat) (wl p : Int) (y : Way) (htm : t < 16) (e1 : IntKind.i64.wrap (wl + 16) = (t : Int)) (x0 : ((y.slot t).k != 0) = true) (w : World) (hW : WayAt w B p y) :
    Calls Tryz.prog 152 #[.pointer (some ⟨B, 0, none⟩), .agg #[vI vK wl, vI vK wl]] w fun e w' => e = .returned (.tuple #[.agg #[vI vK (y.slot t).k, vI vK (y.slot t).l, vI vK (y.slot t).h], vI vK 0]) ∧ Below w.heap.size w w' := by
  have hK0 : Blk w [(w.heap.size, .cells #[vI vK wl, vI vK wl] 43 (0, 0)), (w.heap.size + 1, .cells #[vI vK 0, vI vK 0, vI vK 0] 146 (0, 0)), (B, .cells (wayCs p y) 150 (0, 0))] _ := (((Blk.nil (((bF _ _).alloc (Nat.le_refl _) _).alloc (by simp) _)).cons ((hW.alloc _).alloc _)).cons (heap_alloc2_new w (.cells #[vI vK wl, vI vK wl] 43) (.cells #[vI vK 0, vI vK 0, vI vK 0] 146))).cons (by rw [Below.heap_alloc _ _ _ (by simp)]; exact heap_alloc_new _ _)
  have hB := hW.lt
  have ht0 : (0 : Int) ≤ (t : Int) := by omega
  have hm0 : (t : Int) ≤ (t : Int) + 1 := by omega
  have hm1 : (t : Int) + 1 ≤ 16 := by omega
  have e3 : IntKind.i64.wrap ((t : Int) + 1) = (t : Int) + 1 := by rw [IntWalk.i64_left]; exact wrap64_in (by omega) (by omega)
  have ht : t < 16 := by omega
  go_enter Tryz.func152, Tryz.ntmps152
  go_wp2_with fail
  refine wp_float (C := Blk w [(w.heap.size, .cells #[vI vK wl, vI vK wl] 43 (0, 0)), (w.heap.size + 1, .cells #[vI vK 0, vI vK 0, vI vK 0] 146 (0, 0)), (B, .cells (wayCs p y) 150 (0, 0))]) (n0 := w.heap.size) 11 [] [] (by kernel_rfl) (by kernel_rfl) (fun d _ _ _ _ h => by cases d <;> exact h) (Blk.stable _ _) (Blk.room0 _ _) hK0.drew trivial ?_
  simp only [List.take_succ_cons, List.take_zero, List.drop_succ_cons, List.drop_zero, List.length_nil, Nat.reduceAdd]
  repeat (first
    | (refine wpQ_skip (by rfl) ?_; simp only [Act.put, siA, scZ, scS])
    | (refine wpQ_yield (by rfl) (v := ?_) ?_ ?_; rotate_left; (intro w2 hC; obtain ⟨s0, s1, sf0, sf1, slt⟩ := row2 (hC.2 _ mcS); obtain ⟨z0, z1, z2, zf0, zf1, zf2, zlt⟩ := row3 (hC.2 _ (mcO _ mcS)); have yW : WayAt _ B _ _ := (hC.2 _ (mcO _ (mcO _ mcS))); have ylt := yW.lt; go_simp; try with_reducible rfl); simp only [Act.put, siA, scZ, scS]))
  refine wpQ_nil ?_
  intro w3 hC hB3
  obtain ⟨s0, s1, sf0, sf1, slt⟩ := row2 (hC.2 _ mcS); obtain ⟨z0, z1, z2, zf0, zf1, zf2, zlt⟩ := row3 (hC.2 _ (mcO _ mcS)); have yW : WayAt _ B _ _ := (hC.2 _ (mcO _ (mcO _ mcS))); have ylt := yW.lt
  go_wp2_with fail
  have hK3 := hC
  clear s0 s1 sf0 sf1 slt z0 z1 z2 zf0 zf1 zf2 zlt yW ylt hC hB3 hK0
  refine wp_float (C := Blk w [(w.heap.size, .cells #[vI vK wl, vI vK wl] 43 (0, 0)), (w.heap.size + 1, .cells #[vI vK 0, vI vK 0, vI vK 0] 146 (0, 0)), (B, .cells (wayCs p y) 150 (0, 0))]) (n0 := w.heap.size) 11 [] [] (by kernel_rfl) (by kernel_rfl) (fun d _ _ _ _ h => by cases d <;> exact h) (Blk.stable _ _) (Blk.room0 _ _) hK3.drew trivial ?_
  simp only [List.take_succ_cons, List.take_zero, List.drop_succ_cons, List.drop_zero, List.length_nil, Nat.reduceAdd]
  repeat (first
    | (refine wpQ_skip (by rfl) ?_; simp only [Act.put, siA, scZ, scS])
    | (refine wpQ_yield (by rfl) (v := ?_) ?_ ?_; rotate_left; (intro w2 hC; obtain ⟨s0, s1, sf0, sf1, slt⟩ := row2 (hC.2 _ mcS); obtain ⟨z0, z1, z2, zf0, zf1, zf2, zlt⟩ := row3 (hC.2 _ (mcO _ mcS)); have yW : WayAt _ B _ _ := (hC.2 _ (mcO _ (mcO _ mcS))); have ylt := yW.lt; obtain ⟨i0, i1, i2⟩ := yW.slot ht; go_simp; try with_reducible rfl); simp only [Act.put, siA, scZ, scS])
    | (refine wpQ_enter (by rfl) ?_; apply Exists.intro; refine ⟨fun w2 hC => ?_, ?_⟩; (obtain ⟨s0, s1, sf0, sf1, slt⟩ := row2 (hC.2 _ mcS); obtain ⟨z0, z1, z2, zf0, zf1, zf2, zlt⟩ := row3 (hC.2 _ (mcO _ mcS)); have yW : WayAt _ B _ _ := (hC.2 _ (mcO _ (mcO _ mcS))); have ylt := yW.lt; obtain ⟨i0, i1, i2⟩ := yW.slot ht; go_simp; apply qb_enter; first | (go_at_call 37; exact one_is _ w2)); simp only [Act.put, siA, scZ, scS]))
  refine wpQ_nil ?_
  intro w4 hC hB4
  obtain ⟨s0, s1, sf0, sf1, slt⟩ := row2 (hC.2 _ mcS); obtain ⟨z0, z1, z2, zf0, zf1, zf2, zlt⟩ := row3 (hC.2 _ (mcO _ mcS)); have yW : WayAt _ B _ _ := (hC.2 _ (mcO _ (mcO _ mcS))); have ylt := yW.lt; obtain ⟨i0, i1, i2⟩ := yW.slot ht
  have hK4 := hC
  go_wp2_with fail
  have hbw := hC.1
  exact bodyPost_ret (v := .tuple #[.agg #[vI vK (y.slot t).k, vI vK (y.slot t).l, vI vK (y.slot t).h], vI vK 0]) (by simp [results, Tryz.results152, go_sem, *]) rfl ⟨rfl, (by repeat' first | with_reducible (first | exact hbw | exact bF _ _ | refine bA ?_ ?_ _ | refine bS ?_ ?_ _ | refine bD ?_ | refine below_setRow ?_ ?_ _) | ((try dsimp only); omega) | (simp; done) | (simp; omega))⟩
theorem Blk.swap4 {w0 w : World} {a b c d : Nat × Obj} (h : Blk w0 [a, b, c] w) (hd : w.heap[d.1]? = some d.2) : Blk w0 [a, b, c, d] w :=
  ⟨h.1, fun x hx => by
    simp only [List.mem_cons, List.not_mem_nil, or_false] at hx
    rcases hx with rfl | rfl | rfl | rfl
    · exact h.2 _ (by simp)
    · exact h.2 _ (by simp)
    · exact h.2 _ (by simp)
    · exact hd⟩
theorem Blk.more4 {w0 w : World} {a b c d : Nat × Obj} (h : Blk w0 [a, b, c, d] w) : Blk w0 [a, b, c] w :=
  h.more fun x hx => by simp only [List.mem_cons, List.not_mem_nil, or_false] at hx ⊢; rcases hx with rfl | rfl | rfl <;> simp
theorem own_later5 {w w1 : World} {X : Obj} {b : Nat} {e : TypeId} {z : Nat} {v : Value} {n : Nat} {xs : List Value} (h : w.ownsRow b e z v n xs) (hb : Below (w.alloc X).heap.size (w.alloc X) w1) : w1.ownsRow b e z v n xs :=
  (h.alloc X).kept (w' := w1) (row := none) ⟨hb.os, hb.tape, hb.output, hb.size, fun k hk _ => hb.block k hk⟩ (by cases v.ownBlock <;> simp)
theorem vkept_lone (B t : Nat) (wl p : Int) (y : Way) (htm : t < 16) (e1 : IntKind.i64.wrap (wl + 16) = (t : Int)) (x0 : ((y.slot t).k != 0) = false) (w : World) (hW : WayAt w B p y) :
    Calls Tryz.prog 152 #[.pointer (some ⟨B, 0, none⟩), .agg #[vI vK wl, vI vK wl]] w fun e w' => (∃ k, k < 1 ∧ (∀ j, j < k → wantAt y t j = 0) ∧ wantAt y t k ≠ 0 ∧ e = .returned (.tuple #[.agg #[vI vK 0, vI vK 0, vI vK 0], vI vK (wantAt y t k)]) ∧ Below w.heap.size w w') ∨ ((∀ j, j < 1 → wantAt y t j = 0) ∧ e = .returned (.tuple #[.agg #[vI vK 1, vI vK (joinTo (bdAt y t) 1).1, vI vK (joinTo (bdAt y t) 1).2], vI vK 0]) ∧ Below w.heap.size w w') := by
  have hK0 : Blk w [(w.heap.size, .cells #[vI vK wl, vI vK wl] 43 (0, 0)), (w.heap.size + 1, .cells #[vI vK 0, vI vK 0, vI vK 0] 146 (0, 0)), (B, .cells (wayCs p y) 150 (0, 0))] _ := (((Blk.nil (((bF _ _).alloc (Nat.le_refl _) _).alloc (by simp) _)).cons ((hW.alloc _).alloc _)).cons (heap_alloc2_new w (.cells #[vI vK wl, vI vK wl] 43) (.cells #[vI vK 0, vI vK 0, vI vK 0] 146))).cons (by rw [Below.heap_alloc _ _ _ (by simp)]; exact heap_alloc_new _ _)
  have hB := hW.lt
  have ht0 : (0 : Int) ≤ (t : Int) := by omega
  have hm0 : (t : Int) ≤ (t : Int) + 1 := by omega
  have hm1 : (t : Int) + 1 ≤ 16 := by omega
  have e3 : IntKind.i64.wrap ((t : Int) + 1) = (t : Int) + 1 := by rw [IntWalk.i64_left]; exact wrap64_in (by omega) (by omega)
  have ht : t < 16 := by omega
  go_enter Tryz.func152, Tryz.ntmps152
  go_wp2_with fail
  refine wp_float (C := Blk w [(w.heap.size, .cells #[vI vK wl, vI vK wl] 43 (0, 0)), (w.heap.size + 1, .cells #[vI vK 0, vI vK 0, vI vK 0] 146 (0, 0)), (B, .cells (wayCs p y) 150 (0, 0))]) (n0 := w.heap.size) 11 [] [] (by kernel_rfl) (by kernel_rfl) (fun d _ _ _ _ h => by cases d <;> exact h) (Blk.stable _ _) (Blk.room0 _ _) hK0.drew trivial ?_
  simp only [List.take_succ_cons, List.take_zero, List.drop_succ_cons, List.drop_zero, List.length_nil, Nat.reduceAdd]
  repeat (first
    | (refine wpQ_skip (by rfl) ?_; simp only [Act.put, siA, scZ, scS])
    | (refine wpQ_yield (by rfl) (v := ?_) ?_ ?_; rotate_left; (intro w2 hC; obtain ⟨s0, s1, sf0, sf1, slt⟩ := row2 (hC.2 _ mcS); obtain ⟨z0, z1, z2, zf0, zf1, zf2, zlt⟩ := row3 (hC.2 _ (mcO _ mcS)); have yW : WayAt _ B _ _ := (hC.2 _ (mcO _ (mcO _ mcS))); have ylt := yW.lt; go_simp; try with_reducible rfl); simp only [Act.put, siA, scZ, scS]))
  refine wpQ_nil ?_
  intro w3 hC hB3
  obtain ⟨s0, s1, sf0, sf1, slt⟩ := row2 (hC.2 _ mcS); obtain ⟨z0, z1, z2, zf0, zf1, zf2, zlt⟩ := row3 (hC.2 _ (mcO _ mcS)); have yW : WayAt _ B _ _ := (hC.2 _ (mcO _ (mcO _ mcS))); have ylt := yW.lt
  go_wp2_with fail
  have hK3 := hC
  clear s0 s1 sf0 sf1 slt z0 z1 z2 zf0 zf1 zf2 zlt yW ylt hC hB3 hK0
  refine wp_float (C := Blk w [(w.heap.size, .cells #[vI vK wl, vI vK wl] 43 (0, 0)), (w.heap.size + 1, .cells #[vI vK 0, vI vK 0, vI vK 0] 146 (0, 0)), (B, .cells (wayCs p y) 150 (0, 0))]) (n0 := w.heap.size) 11 [] [] (by kernel_rfl) (by kernel_rfl) (fun d _ _ _ _ h => by cases d <;> exact h) (Blk.stable _ _) (Blk.room0 _ _) hK3.drew trivial ?_
  simp only [List.take_succ_cons, List.take_zero, List.drop_succ_cons, List.drop_zero, List.length_nil, Nat.reduceAdd]
  repeat (first
    | (refine wpQ_skip (by rfl) ?_; simp only [Act.put, siA, scZ, scS])
    | (refine wpQ_yield (by rfl) (v := ?_) ?_ ?_; rotate_left; (intro w2 hC; obtain ⟨s0, s1, sf0, sf1, slt⟩ := row2 (hC.2 _ mcS); obtain ⟨z0, z1, z2, zf0, zf1, zf2, zlt⟩ := row3 (hC.2 _ (mcO _ mcS)); have yW : WayAt _ B _ _ := (hC.2 _ (mcO _ (mcO _ mcS))); have ylt := yW.lt; obtain ⟨i0, i1, i2⟩ := yW.slot ht; go_simp; try with_reducible rfl); simp only [Act.put, siA, scZ, scS])
    | (refine wpQ_enter (by rfl) ?_; apply Exists.intro; refine ⟨fun w2 hC => ?_, ?_⟩; (obtain ⟨s0, s1, sf0, sf1, slt⟩ := row2 (hC.2 _ mcS); obtain ⟨z0, z1, z2, zf0, zf1, zf2, zlt⟩ := row3 (hC.2 _ (mcO _ mcS)); have yW : WayAt _ B _ _ := (hC.2 _ (mcO _ (mcO _ mcS))); have ylt := yW.lt; obtain ⟨i0, i1, i2⟩ := yW.slot ht; go_simp; apply qb_enter; first | (go_at_call 37; exact one_is _ w2)); simp only [Act.put, siA, scZ, scS]))
  refine wpQ_nil ?_
  intro w4 hC hB4
  obtain ⟨s0, s1, sf0, sf1, slt⟩ := row2 (hC.2 _ mcS); obtain ⟨z0, z1, z2, zf0, zf1, zf2, zlt⟩ := row3 (hC.2 _ (mcO _ mcS)); have yW : WayAt _ B _ _ := (hC.2 _ (mcO _ (mcO _ mcS))); have ylt := yW.lt; obtain ⟨i0, i1, i2⟩ := yW.slot ht
  have hK4 := hC
  go_wp2_with fail
  obtain ⟨j0, hj, hy0, hy1, hy2⟩ := info_parts Tryz.infoB
  clear s0 s1 sf0 sf1 slt z0 z1 z2 zf0 zf1 zf2 zlt yW ylt i0 i1 i2 hC hB4 hK3
  have HK4 : Hid (Blk w [(w.heap.size, .cells #[vI vK wl, vI vK wl] 43 (0, 0)), (w.heap.size + 1, .cells #[vI vK 0, vI vK 0, vI vK 0] 146 (0, 0)), (B, .cells (wayCs p y) 150 (0, 0))] w4) := hK4
  clear hK4
  go_loopw [7, 39] (fun v i wr => ∃ k : Nat, i = vI vK k ∧ k ≤ 1 ∧ Hid (Blk w [(w.heap.size, .cells #[vI vK wl, vI vK wl] 43 (0, 0)), (w.heap.size + 1, .cells #[vI vK 0, vI vK 0, vI vK 0] 146 (0, 0)), (B, .cells (wayCs p y) 150 (0, 0))] wr) ∧ Hid (wr.ownsRow (w.heap.size + 1 + 1) 43 2 v k (bdCells (bdAt y t) k)) ∧ Hid (∀ j, j < k → wantAt y t j = 0)) (fun _ i _ => 1 - (intOf i).toNat)
  case atStart => exact ⟨0, rfl, by omega, HK4.out, World.ownsRow_nil _ _ _ _, fun j hj => absurd hj (by omega)⟩
  case round =>
    obtain ⟨k, rfl, hk, H, HO, HZ⟩ := hrel
    have hK := H.out
    clear HK4
    have hk0 : (0 : Int) ≤ (k : Int) := by omega
    by_cases hlt : k < 1
    · have hlt' : (k : Int) < (1 : Int) := by omega
      obtain ⟨s0, s1, sf0, sf1, slt⟩ := row2 (hK.2 _ mcS); obtain ⟨z0, z1, z2, zf0, zf1, zf2, zlt⟩ := row3 (hK.2 _ (mcO _ mcS)); have yW : WayAt _ B _ _ := (hK.2 _ (mcO _ (mcO _ mcS))); have ylt := yW.lt
      obtain ⟨i0, i1, i2⟩ := yW.slot (d := t + k) (by omega)
      have e5 : 34 + (t + k) * 3 = 34 + t * 3 + k * 3 := by omega
      rw [e5] at i0 i1 i2
      clear e5
      by_cases hwt : wantAt y t k = 0
      · have HW0 : Hid (knoWant ⟨(y.slot (t + k)).k, (y.slot (t + k)).l, (y.slot (t + k)).h⟩ = 0) := hwt
        clear hwt
        go_wp2_with (first
          | (go_at_call 107; go_must (refine (vwant_any _ _ _ _).mono ?_; rintro e w5 ⟨rfl, hb5⟩; rw [HW0.out]; have hK5 : Blk w [(w.heap.size, .cells #[vI vK wl, vI vK wl] 43 (0, 0)), (w.heap.size + 1, .cells #[vI vK 0, vI vK 0, vI vK 0] 146 (0, 0)), (B, .cells (wayCs p y) 150 (0, 0)), (wr.heap.size, .cells #[vI vK (y.slot (t + k)).k, vI vK (y.slot (t + k)).l, vI vK (y.slot (t + k)).h] 146 (0, 0))] w5 := (((hK.later ((bF _ _).alloc (Nat.le_refl _) _)).swap4 (heap_alloc_new wr (.cells #[vI vK (y.slot (t + k)).k, vI vK (y.slot (t + k)).l, vI vK (y.slot (t + k)).h] 146))).later hb5); have hO5 := own_later5 HO.out hb5; clear s0 s1 sf0 sf1 slt z0 z1 z2 zf0 zf1 zf2 zlt yW ylt; clear i0 i1 i2; obtain ⟨s0, s1, sf0, sf1, slt⟩ := row2 (hK5.2 _ mcS); obtain ⟨z0, z1, z2, zf0, zf1, zf2, zlt⟩ := row3 (hK5.2 _ (mcO _ mcS)); have yW : WayAt _ B _ _ := (hK5.2 _ (mcO _ (mcO _ mcS))); have ylt := yW.lt; obtain ⟨x0, x1, x2, xf0, xf1, xf2, xlt⟩ := row3 (hK5.2 _ (mcO _ (mcO _ (mcO _ mcS))))))
          | (at_builtin; refine wpList_append_own _ rfl (.tmp 49) (.tmp 52) 91 rfl (w.heap.size + 1 + 1) 43 j0 (.agg #[vI vK 0, vI vK 0]) 2 16 Tryz.underlying91 hj hy0 hy1 hy2 rfl (by decide) _ k (bdCells (bdAt y t) k) rfl (hO5.alloc _) ⟨w5.heap.size, 0, none⟩ 1 1 [vI vK (y.slot (t + k)).l, vI vK (y.slot (t + k)).h] rfl rfl (cell_two rfl) (by intro u hu; simp at hu; rcases hu with rfl | rfl <;> rfl) (by unfold maxLen; omega) (by omega) (by simp; omega) ?_; intro v6 w6 hown6 hgrow6 _)
          | fail)
        go_roundw
        case rel =>
          refine ⟨k + 1, by go_num, by omega, ?_, hown6, ?_⟩
          · exact ((hK5.more4.later ((bF _ _).alloc (Nat.le_refl _) _)).grown hgrow6 (b := w.heap.size + 1 + 1) (fun j hj => (hO5.lt j hj).1) (by omega) (by intro x hx; simp only [List.mem_cons, List.not_mem_nil, or_false] at hx; rcases hx with rfl | rfl | rfl <;> (show _ < _; omega)))
          · intro j hj
            by_cases e : j = k
            · rw [e]; exact HW0.out
            · exact HZ.out j (by omega)
        case measure => simp [intOf]; omega
      · have hwb : (wantAt y t k != 0) = true := by simpa using hwt
        have HWT : Hid (wantAt y t k ≠ 0) := hwt
        obtain ⟨E, hE⟩ : ∃ E, wantAt y t k = E := ⟨_, rfl⟩
        have HW0 : Hid (knoWant ⟨(y.slot (t + k)).k, (y.slot (t + k)).l, (y.slot (t + k)).h⟩ = E) := hE
        have HE : Hid (wantAt y t k = E) := hE
        rw [hE] at hwb
        clear hwt hE
        go_wp2_with (first
          | (go_at_call 107; go_must (refine (vwant_any _ _ _ _).mono ?_; rintro e w5 ⟨rfl, hb5⟩; rw [HW0.out]; have hK5 : Blk w [(w.heap.size, .cells #[vI vK wl, vI vK wl] 43 (0, 0)), (w.heap.size + 1, .cells #[vI vK 0, vI vK 0, vI vK 0] 146 (0, 0)), (B, .cells (wayCs p y) 150 (0, 0)), (wr.heap.size, .cells #[vI vK (y.slot (t + k)).k, vI vK (y.slot (t + k)).l, vI vK (y.slot (t + k)).h] 146 (0, 0))] w5 := (((hK.later ((bF _ _).alloc (Nat.le_refl _) _)).swap4 (heap_alloc_new wr (.cells #[vI vK (y.slot (t + k)).k, vI vK (y.slot (t + k)).l, vI vK (y.slot (t + k)).h] 146))).later hb5); have hO5 := own_later5 HO.out hb5; clear s0 s1 sf0 sf1 slt z0 z1 z2 zf0 zf1 zf2 zlt yW ylt; clear i0 i1 i2; obtain ⟨s0, s1, sf0, sf1, slt⟩ := row2 (hK5.2 _ mcS); obtain ⟨z0, z1, z2, zf0, zf1, zf2, zlt⟩ := row3 (hK5.2 _ (mcO _ mcS)); have yW : WayAt _ B _ _ := (hK5.2 _ (mcO _ (mcO _ mcS))); have ylt := yW.lt; obtain ⟨x0, x1, x2, xf0, xf1, xf2, xlt⟩ := row3 (hK5.2 _ (mcO _ (mcO _ (mcO _ mcS))))))
          | fail)
        have hbw := hK5.1
        exact bodyPost_ret (v := .tuple #[.agg #[vI vK 0, vI vK 0, vI vK 0], vI vK E]) (by simp [results, Tryz.results152, go_sem, *]) rfl (Or.inl ⟨k, hlt, HZ.out, HWT.out, by rw [HE.out], (by repeat' first | with_reducible (first | exact hbw | exact bF _ _ | refine bA ?_ ?_ _ | refine bS ?_ ?_ _ | refine bD ?_ | refine below_setRow ?_ ?_ _) | ((try dsimp only); omega) | (simp; done) | (simp; omega))⟩)
    · obtain rfl : k = 1 := by omega
      obtain ⟨s0, s1, sf0, sf1, slt⟩ := row2 (hK.2 _ mcS); obtain ⟨z0, z1, z2, zf0, zf1, zf2, zlt⟩ := row3 (hK.2 _ (mcO _ mcS)); have yW : WayAt _ B _ _ := (hK.2 _ (mcO _ (mcO _ mcS))); have ylt := yW.lt
      go_wp2_with (first
        | (go_at_call 36; go_must (refine (joined_own HO.out (by omega)).mono ?_; rintro e w5 ⟨rfl, hb5⟩; have hK5 := hK.later hb5))
        | (go_at_call 150; go_must (refine (vnumber_any _ _ _).mono ?_; rintro e w6 ⟨rfl, hb6⟩; simp only [Kno.v, knoNum]; have hK6 := hK5.later hb6; have hbw := hK6.1; clear s0 s1 sf0 sf1 slt z0 z1 z2 zf0 zf1 zf2 zlt yW ylt; obtain ⟨s0, s1, sf0, sf1, slt⟩ := row2 (hK6.2 _ mcS); obtain ⟨z0, z1, z2, zf0, zf1, zf2, zlt⟩ := row3 (hK6.2 _ (mcO _ mcS)); have yW : WayAt _ B _ _ := (hK6.2 _ (mcO _ (mcO _ mcS))); have ylt := yW.lt))
        | fail)
      exact bodyPost_ret (v := .tuple #[.agg #[vI vK 1, vI vK (joinTo (bdAt y t) 1).1, vI vK (joinTo (bdAt y t) 1).2], vI vK 0]) (by simp [results, Tryz.results152, go_sem, *]) rfl (Or.inr ⟨HZ.out 0 (by omega), rfl, (by repeat' first | with_reducible (first | exact hbw | exact bF _ _ | refine bA ?_ ?_ _ | refine bS ?_ ?_ _ | refine bD ?_ | refine below_setRow ?_ ?_ _) | ((try dsimp only); omega) | (simp; done) | (simp; omega))⟩)
theorem vkept_many (B t m : Nat) (wl wh p : Int) (y : Way) (htm : t + m < 16) (e1 : IntKind.i64.wrap (wl + 16) = (t : Int)) (e2 : IntKind.i64.wrap (wh + 16) = (t : Int) + (m : Int)) (hne : ¬ wh = wl)  (w : World) (hW : WayAt w B p y) :
    Calls Tryz.prog 152 #[.pointer (some ⟨B, 0, none⟩), .agg #[vI vK wl, vI vK wh]] w fun e w' => (∃ k, k < (m + 1) ∧ (∀ j, j < k → wantAt y t j = 0) ∧ wantAt y t k ≠ 0 ∧ e = .returned (.tuple #[.agg #[vI vK 0, vI vK 0, vI vK 0], vI vK (wantAt y t k)]) ∧ Below w.heap.size w w') ∨ ((∀ j, j < (m + 1) → wantAt y t j = 0) ∧ e = .returned (.tuple #[.agg #[vI vK 1, vI vK (joinTo (bdAt y t) (m + 1)).1, vI vK (joinTo (bdAt y t) (m + 1)).2], vI vK 0]) ∧ Below w.heap.size w w') := by
  have hK0 : Blk w [(w.heap.size, .cells #[vI vK wl, vI vK wh] 43 (0, 0)), (w.heap.size + 1, .cells #[vI vK 0, vI vK 0, vI vK 0] 146 (0, 0)), (B, .cells (wayCs p y) 150 (0, 0))] _ := (((Blk.nil (((bF _ _).alloc (Nat.le_refl _) _).alloc (by simp) _)).cons ((hW.alloc _).alloc _)).cons (heap_alloc2_new w (.cells #[vI vK wl, vI vK wh] 43) (.cells #[vI vK 0, vI vK 0, vI vK 0] 146))).cons (by rw [Below.heap_alloc _ _ _ (by simp)]; exact heap_alloc_new _ _)
  have hB := hW.lt
  have ht0 : (0 : Int) ≤ (t : Int) := by omega
  have hm0 : (t : Int) ≤ (t : Int) + (m : Int) + 1 := by omega
  have hm1 : (t : Int) + (m : Int) + 1 ≤ 16 := by omega
  have e3 : IntKind.i64.wrap ((t : Int) + (m : Int) + 1) = (t : Int) + (m : Int) + 1 := by rw [IntWalk.i64_left]; exact wrap64_in (by omega) (by omega)
  have ht : t < 16 := by omega
  go_enter Tryz.func152, Tryz.ntmps152
  go_wp2_with fail
  refine wp_float (C := Blk w [(w.heap.size, .cells #[vI vK wl, vI vK wh] 43 (0, 0)), (w.heap.size + 1, .cells #[vI vK 0, vI vK 0, vI vK 0] 146 (0, 0)), (B, .cells (wayCs p y) 150 (0, 0))]) (n0 := w.heap.size) 11 [] [] (by kernel_rfl) (by kernel_rfl) (fun d _ _ _ _ h => by cases d <;> exact h) (Blk.stable _ _) (Blk.room0 _ _) hK0.drew trivial ?_
  simp only [List.take_succ_cons, List.take_zero, List.drop_succ_cons, List.drop_zero, List.length_nil, Nat.reduceAdd]
  repeat (first
    | (refine wpQ_skip (by rfl) ?_; simp only [Act.put, siA, scZ, scS])
    | (refine wpQ_yield (by rfl) (v := ?_) ?_ ?_; rotate_left; (intro w2 hC; obtain ⟨s0, s1, sf0, sf1, slt⟩ := row2 (hC.2 _ mcS); obtain ⟨z0, z1, z2, zf0, zf1, zf2, zlt⟩ := row3 (hC.2 _ (mcO _ mcS)); have yW : WayAt _ B _ _ := (hC.2 _ (mcO _ (mcO _ mcS))); have ylt := yW.lt; go_simp; try with_reducible rfl); simp only [Act.put, siA, scZ, scS]))
  refine wpQ_nil ?_
  intro w3 hC hB3
  obtain ⟨s0, s1, sf0, sf1, slt⟩ := row2 (hC.2 _ mcS); obtain ⟨z0, z1, z2, zf0, zf1, zf2, zlt⟩ := row3 (hC.2 _ (mcO _ mcS)); have yW : WayAt _ B _ _ := (hC.2 _ (mcO _ (mcO _ mcS))); have ylt := yW.lt
  go_wp2_with fail
  have e4 : ((t : Int) + (m : Int) + 1).toNat - t = m + 1 := by omega
  rw [e4]
  clear e4
  have hK3 := hC
  clear s0 s1 sf0 sf1 slt z0 z1 z2 zf0 zf1 zf2 zlt yW ylt hC hB3 hK0
  refine wp_float (C := Blk w [(w.heap.size, .cells #[vI vK wl, vI vK wh] 43 (0, 0)), (w.heap.size + 1, .cells #[vI vK 0, vI vK 0, vI vK 0] 146 (0, 0)), (B, .cells (wayCs p y) 150 (0, 0))]) (n0 := w.heap.size) 11 [] [] (by kernel_rfl) (by kernel_rfl) (fun d _ _ _ _ h => by cases d <;> exact h) (Blk.stable _ _) (Blk.room0 _ _) hK3.drew trivial ?_
  simp only [List.take_succ_cons, List.take_zero, List.drop_succ_cons, List.drop_zero, List.length_nil, Nat.reduceAdd]
  repeat (first
    | (refine wpQ_skip (by rfl) ?_; simp only [Act.put, siA, scZ, scS])
    | (refine wpQ_yield (by rfl) (v := ?_) ?_ ?_; rotate_left; (intro w2 hC; obtain ⟨s0, s1, sf0, sf1, slt⟩ := row2 (hC.2 _ mcS); obtain ⟨z0, z1, z2, zf0, zf1, zf2, zlt⟩ := row3 (hC.2 _ (mcO _ mcS)); have yW : WayAt _ B _ _ := (hC.2 _ (mcO _ (mcO _ mcS))); have ylt := yW.lt; obtain ⟨i0, i1, i2⟩ := yW.slot ht; go_simp; try with_reducible rfl); simp only [Act.put, siA, scZ, scS])
    | (refine wpQ_enter (by rfl) ?_; apply Exists.intro; refine ⟨fun w2 hC => ?_, ?_⟩; (obtain ⟨s0, s1, sf0, sf1, slt⟩ := row2 (hC.2 _ mcS); obtain ⟨z0, z1, z2, zf0, zf1, zf2, zlt⟩ := row3 (hC.2 _ (mcO _ mcS)); have yW : WayAt _ B _ _ := (hC.2 _ (mcO _ (mcO _ mcS))); have ylt := yW.lt; obtain ⟨i0, i1, i2⟩ := yW.slot ht; go_simp; apply qb_enter; first | (go_at_call 37; exact one_is _ w2)); simp only [Act.put, siA, scZ, scS]))
  refine wpQ_nil ?_
  intro w4 hC hB4
  obtain ⟨s0, s1, sf0, sf1, slt⟩ := row2 (hC.2 _ mcS); obtain ⟨z0, z1, z2, zf0, zf1, zf2, zlt⟩ := row3 (hC.2 _ (mcO _ mcS)); have yW : WayAt _ B _ _ := (hC.2 _ (mcO _ (mcO _ mcS))); have ylt := yW.lt; obtain ⟨i0, i1, i2⟩ := yW.slot ht
  have hK4 := hC
  go_wp2_with fail
  obtain ⟨j0, hj, hy0, hy1, hy2⟩ := info_parts Tryz.infoB
  clear s0 s1 sf0 sf1 slt z0 z1 z2 zf0 zf1 zf2 zlt yW ylt i0 i1 i2 hC hB4 hK3
  have HK4 : Hid (Blk w [(w.heap.size, .cells #[vI vK wl, vI vK wh] 43 (0, 0)), (w.heap.size + 1, .cells #[vI vK 0, vI vK 0, vI vK 0] 146 (0, 0)), (B, .cells (wayCs p y) 150 (0, 0))] w4) := hK4
  clear hK4
  go_loopw [7, 39] (fun v i wr => ∃ k : Nat, i = vI vK k ∧ k ≤ (m + 1) ∧ Hid (Blk w [(w.heap.size, .cells #[vI vK wl, vI vK wh] 43 (0, 0)), (w.heap.size + 1, .cells #[vI vK 0, vI vK 0, vI vK 0] 146 (0, 0)), (B, .cells (wayCs p y) 150 (0, 0))] wr) ∧ Hid (wr.ownsRow (w.heap.size + 1 + 1) 43 2 v k (bdCells (bdAt y t) k)) ∧ Hid (∀ j, j < k → wantAt y t j = 0)) (fun _ i _ => (m + 1) - (intOf i).toNat)
  case atStart => exact ⟨0, rfl, by omega, HK4.out, World.ownsRow_nil _ _ _ _, fun j hj => absurd hj (by omega)⟩
  case round =>
    obtain ⟨k, rfl, hk, H, HO, HZ⟩ := hrel
    have hK := H.out
    clear HK4
    have hk0 : (0 : Int) ≤ (k : Int) := by omega
    by_cases hlt : k < (m + 1)
    · have hlt' : (k : Int) < ((m : Int) + 1 : Int) := by omega
      obtain ⟨s0, s1, sf0, sf1, slt⟩ := row2 (hK.2 _ mcS); obtain ⟨z0, z1, z2, zf0, zf1, zf2, zlt⟩ := row3 (hK.2 _ (mcO _ mcS)); have yW : WayAt _ B _ _ := (hK.2 _ (mcO _ (mcO _ mcS))); have ylt := yW.lt
      obtain ⟨i0, i1, i2⟩ := yW.slot (d := t + k) (by omega)
      have e5 : 34 + (t + k) * 3 = 34 + t * 3 + k * 3 := by omega
      rw [e5] at i0 i1 i2
      clear e5
      by_cases hwt : wantAt y t k = 0
      · have HW0 : Hid (knoWant ⟨(y.slot (t + k)).k, (y.slot (t + k)).l, (y.slot (t + k)).h⟩ = 0) := hwt
        clear hwt
        go_wp2_with (first
          | (go_at_call 107; go_must (refine (vwant_any _ _ _ _).mono ?_; rintro e w5 ⟨rfl, hb5⟩; rw [HW0.out]; have hK5 : Blk w [(w.heap.size, .cells #[vI vK wl, vI vK wh] 43 (0, 0)), (w.heap.size + 1, .cells #[vI vK 0, vI vK 0, vI vK 0] 146 (0, 0)), (B, .cells (wayCs p y) 150 (0, 0)), (wr.heap.size, .cells #[vI vK (y.slot (t + k)).k, vI vK (y.slot (t + k)).l, vI vK (y.slot (t + k)).h] 146 (0, 0))] w5 := (((hK.later ((bF _ _).alloc (Nat.le_refl _) _)).swap4 (heap_alloc_new wr (.cells #[vI vK (y.slot (t + k)).k, vI vK (y.slot (t + k)).l, vI vK (y.slot (t + k)).h] 146))).later hb5); have hO5 := own_later5 HO.out hb5; clear s0 s1 sf0 sf1 slt z0 z1 z2 zf0 zf1 zf2 zlt yW ylt; clear i0 i1 i2; obtain ⟨s0, s1, sf0, sf1, slt⟩ := row2 (hK5.2 _ mcS); obtain ⟨z0, z1, z2, zf0, zf1, zf2, zlt⟩ := row3 (hK5.2 _ (mcO _ mcS)); have yW : WayAt _ B _ _ := (hK5.2 _ (mcO _ (mcO _ mcS))); have ylt := yW.lt; obtain ⟨x0, x1, x2, xf0, xf1, xf2, xlt⟩ := row3 (hK5.2 _ (mcO _ (mcO _ (mcO _ mcS))))))
          | (at_builtin; refine wpList_append_own _ rfl (.tmp 49) (.tmp 52) 91 rfl (w.heap.size + 1 + 1) 43 j0 (.agg #[vI vK 0, vI vK 0]) 2 16 Tryz.underlying91 hj hy0 hy1 hy2 rfl (by decide) _ k (bdCells (bdAt y t) k) rfl (hO5.alloc _) ⟨w5.heap.size, 0, none⟩ 1 1 [vI vK (y.slot (t + k)).l, vI vK (y.slot (t + k)).h] rfl rfl (cell_two rfl) (by intro u hu; simp at hu; rcases hu with rfl | rfl <;> rfl) (by unfold maxLen; omega) (by omega) (by simp; omega) ?_; intro v6 w6 hown6 hgrow6 _)
          | fail)
        go_roundw
        case rel =>
          refine ⟨k + 1, by go_num, by omega, ?_, hown6, ?_⟩
          · exact ((hK5.more4.later ((bF _ _).alloc (Nat.le_refl _) _)).grown hgrow6 (b := w.heap.size + 1 + 1) (fun j hj => (hO5.lt j hj).1) (by omega) (by intro x hx; simp only [List.mem_cons, List.not_mem_nil, or_false] at hx; rcases hx with rfl | rfl | rfl <;> (show _ < _; omega)))
          · intro j hj
            by_cases e : j = k
            · rw [e]; exact HW0.out
            · exact HZ.out j (by omega)
        case measure => simp [intOf]; omega
      · have hwb : (wantAt y t k != 0) = true := by simpa using hwt
        have HWT : Hid (wantAt y t k ≠ 0) := hwt
        obtain ⟨E, hE⟩ : ∃ E, wantAt y t k = E := ⟨_, rfl⟩
        have HW0 : Hid (knoWant ⟨(y.slot (t + k)).k, (y.slot (t + k)).l, (y.slot (t + k)).h⟩ = E) := hE
        have HE : Hid (wantAt y t k = E) := hE
        rw [hE] at hwb
        clear hwt hE
        go_wp2_with (first
          | (go_at_call 107; go_must (refine (vwant_any _ _ _ _).mono ?_; rintro e w5 ⟨rfl, hb5⟩; rw [HW0.out]; have hK5 : Blk w [(w.heap.size, .cells #[vI vK wl, vI vK wh] 43 (0, 0)), (w.heap.size + 1, .cells #[vI vK 0, vI vK 0, vI vK 0] 146 (0, 0)), (B, .cells (wayCs p y) 150 (0, 0)), (wr.heap.size, .cells #[vI vK (y.slot (t + k)).k, vI vK (y.slot (t + k)).l, vI vK (y.slot (t + k)).h] 146 (0, 0))] w5 := (((hK.later ((bF _ _).alloc (Nat.le_refl _) _)).swap4 (heap_alloc_new wr (.cells #[vI vK (y.slot (t + k)).k, vI vK (y.slot (t + k)).l, vI vK (y.slot (t + k)).h] 146))).later hb5); have hO5 := own_later5 HO.out hb5; clear s0 s1 sf0 sf1 slt z0 z1 z2 zf0 zf1 zf2 zlt yW ylt; clear i0 i1 i2; obtain ⟨s0, s1, sf0, sf1, slt⟩ := row2 (hK5.2 _ mcS); obtain ⟨z0, z1, z2, zf0, zf1, zf2, zlt⟩ := row3 (hK5.2 _ (mcO _ mcS)); have yW : WayAt _ B _ _ := (hK5.2 _ (mcO _ (mcO _ mcS))); have ylt := yW.lt; obtain ⟨x0, x1, x2, xf0, xf1, xf2, xlt⟩ := row3 (hK5.2 _ (mcO _ (mcO _ (mcO _ mcS))))))
          | fail)
        have hbw := hK5.1
        exact bodyPost_ret (v := .tuple #[.agg #[vI vK 0, vI vK 0, vI vK 0], vI vK E]) (by simp [results, Tryz.results152, go_sem, *]) rfl (Or.inl ⟨k, hlt, HZ.out, HWT.out, by rw [HE.out], (by repeat' first | with_reducible (first | exact hbw | exact bF _ _ | refine bA ?_ ?_ _ | refine bS ?_ ?_ _ | refine bD ?_ | refine below_setRow ?_ ?_ _) | ((try dsimp only); omega) | (simp; done) | (simp; omega))⟩)
    · obtain rfl : k = (m + 1) := by omega
      obtain ⟨s0, s1, sf0, sf1, slt⟩ := row2 (hK.2 _ mcS); obtain ⟨z0, z1, z2, zf0, zf1, zf2, zlt⟩ := row3 (hK.2 _ (mcO _ mcS)); have yW : WayAt _ B _ _ := (hK.2 _ (mcO _ (mcO _ mcS))); have ylt := yW.lt
      go_wp2_with (first
        | (go_at_call 36; go_must (refine (joined_own HO.out (by omega)).mono ?_; rintro e w5 ⟨rfl, hb5⟩; have hK5 := hK.later hb5))
        | (go_at_call 150; go_must (refine (vnumber_any _ _ _).mono ?_; rintro e w6 ⟨rfl, hb6⟩; simp only [Kno.v, knoNum]; have hK6 := hK5.later hb6; have hbw := hK6.1; clear s0 s1 sf0 sf1 slt z0 z1 z2 zf0 zf1 zf2 zlt yW ylt; obtain ⟨s0, s1, sf0, sf1, slt⟩ := row2 (hK6.2 _ mcS); obtain ⟨z0, z1, z2, zf0, zf1, zf2, zlt⟩ := row3 (hK6.2 _ (mcO _ mcS)); have yW : WayAt _ B _ _ := (hK6.2 _ (mcO _ (mcO _ mcS))); have ylt := yW.lt))
        | fail)
      exact bodyPost_ret (v := .tuple #[.agg #[vI vK 1, vI vK (joinTo (bdAt y t) (m + 1)).1, vI vK (joinTo (bdAt y t) (m + 1)).2], vI vK 0]) (by simp [results, Tryz.results152, go_sem, *]) rfl (Or.inr ⟨HZ.out, rfl, (by repeat' first | with_reducible (first | exact hbw | exact bF _ _ | refine bA ?_ ?_ _ | refine bS ?_ ?_ _ | refine bD ?_ | refine below_setRow ?_ ?_ _) | ((try dsimp only); omega) | (simp; done) | (simp; omega))⟩)
end Go.Proofs.YtednmkhdehlojaaGreatDoor
namespace Go.Proofs.YtednmkhdehlojaaGreatDoor
open Go.ChangeShapes Go.WideShapes Go.ChangeAt Go.RowKit
theorem firstBad_snoc (x : Kno) : ∀ l : List Kno, firstBad (l ++ [x]) = if firstBad l = 0 then knoWant x else firstBad l
  | [] => by
    show (if knoWant x = 0 then firstBad [] else knoWant x) = if (0 : Int) = 0 then knoWant x else 0
    rw [if_pos rfl]
    split
    · rename_i h; exact h.symm
    · rfl
  | y :: l => by
    show (if knoWant y = 0 then firstBad (l ++ [x]) else knoWant y) = if (if knoWant y = 0 then firstBad l else knoWant y) = 0 then knoWant x else if knoWant y = 0 then firstBad l else knoWant y
    by_cases h : knoWant y = 0
    · rw [if_pos h, if_pos h, firstBad_snoc x l]
    · rw [if_neg h, if_neg h, if_neg h]
theorem joinFrom_snoc (x : Kno) : ∀ (l : List Kno) (p : Int × Int), joinFrom p (l ++ [x]) = (min (joinFrom p l).1 x.l, max (joinFrom p l).2 x.h)
  | [], _ => rfl
  | y :: l, p => by
    show joinFrom (min p.1 y.l, max p.2 y.h) (l ++ [x]) = _
    rw [joinFrom_snoc x l]; rfl
theorem row_snoc (y : Way) (t M : Nat) : y.row t (M + 1) = y.row t M ++ [y.slot (t + M)] := by
  unfold Way.row
  rw [List.range'_concat, List.map_append]
  simp
theorem firstBad_all {y : Way} {t : Nat} : ∀ M, (∀ j, j < M → wantAt y t j = 0) → firstBad (y.row t M) = 0
  | 0, _ => rfl
  | M + 1, h => by rw [row_snoc, firstBad_snoc, firstBad_all M (fun j hj => h j (by omega)), if_pos rfl]; exact h M (by omega)
theorem firstBad_at {y : Way} {t k : Nat} (hk : ∀ j, j < k → wantAt y t j = 0) (hw : wantAt y t k ≠ 0) : ∀ M, k < M → firstBad (y.row t M) = wantAt y t k
  | 0, h => absurd h (by omega)
  | M + 1, h => by
    by_cases e : k = M
    · subst e
      rw [row_snoc, firstBad_snoc, firstBad_all k hk, if_pos rfl]; rfl
    · rw [row_snoc, firstBad_snoc, firstBad_at hk hw M (by omega), if_neg hw]
theorem joinL_row {y : Way} {t : Nat} : ∀ M, joinL (y.row t (M + 1)) = joinTo (bdAt y t) (M + 1)
  | 0 => rfl
  | M + 1 => by
    rw [joinTo_more _ (by omega), ← joinL_row M, row_snoc y t (M + 1)]
    have : ∃ x l, y.row t (M + 1) = x :: l := by
      cases h : y.row t (M + 1) with
      | nil => have := congrArg List.length h; simp [Way.row] at this
      | cons x l => exact ⟨x, l, rfl⟩
    obtain ⟨x, l, e⟩ := this
    rw [e]
    show joinFrom (x.l, x.h) (l ++ [y.slot (t + (M + 1))]) = _
    rw [joinFrom_snoc]
    rfl
theorem vkept_any (B : Nat) (wl wh p : Int) (y : Way) (h0 : -16 ≤ wl) (h1 : wl ≤ wh) (h2 : wh ≤ -1) (w : World) (hW : WayAt w B p y) :
    Calls Tryz.prog 152 #[.pointer (some ⟨B, 0, none⟩), .agg #[vI vK wl, vI vK wh]] w fun e w' => e = .returned (.tuple #[(y.kept (wl, wh)).1.v, vI vK (y.kept (wl, wh)).2]) ∧ Below w.heap.size w w' := by
  obtain ⟨t, et⟩ := Int.eq_ofNat_of_zero_le (show 0 ≤ wl + 16 by omega)
  obtain ⟨m, em⟩ := Int.eq_ofNat_of_zero_le (show 0 ≤ wh - wl by omega)
  have e1 : IntKind.i64.wrap (wl + 16) = (t : Int) := by rw [IntWalk.i64_left, wrap64_in (by omega) (by omega)]; exact et
  have t1 : (wl + 16).toNat = t := by omega
  have m1 : (wh - wl + 1).toNat = m + 1 := by omega
  unfold Way.kept
  show Calls _ _ _ _ fun e w' => e = .returned (.tuple #[(if wl = wh ∧ (y.slot (wl + 16).toNat).k ≠ 0 then (y.slot (wl + 16).toNat, 0) else if firstBad (y.row (wl + 16).toNat (wh - wl + 1).toNat) ≠ 0 then (kno0, firstBad (y.row (wl + 16).toNat (wh - wl + 1).toNat)) else (knoNum (joinL (y.row (wl + 16).toNat (wh - wl + 1).toNat)).1 (joinL (y.row (wl + 16).toNat (wh - wl + 1).toNat)).2, 0) : Kno × Int).1.v, vI vK (if wl = wh ∧ (y.slot (wl + 16).toNat).k ≠ 0 then (y.slot (wl + 16).toNat, 0) else if firstBad (y.row (wl + 16).toNat (wh - wl + 1).toNat) ≠ 0 then (kno0, firstBad (y.row (wl + 16).toNat (wh - wl + 1).toNat)) else (knoNum (joinL (y.row (wl + 16).toNat (wh - wl + 1).toNat)).1 (joinL (y.row (wl + 16).toNat (wh - wl + 1).toNat)).2, 0) : Kno × Int).2]) ∧ Below w.heap.size w w'
  rw [t1, m1]
  by_cases c : wl = wh ∧ (y.slot t).k ≠ 0
  · rw [if_pos c]
    obtain ⟨rfl, c2⟩ := c
    exact vkept_one B t wl p y (by omega) e1 (by simpa using c2) w hW
  · rw [if_neg c]
    have fin : ∀ {e : Ending} {w' : World}, ((∃ k, k < m + 1 ∧ (∀ j, j < k → wantAt y t j = 0) ∧ wantAt y t k ≠ 0 ∧ e = .returned (.tuple #[.agg #[vI vK 0, vI vK 0, vI vK 0], vI vK (wantAt y t k)]) ∧ Below w.heap.size w w') ∨ ((∀ j, j < m + 1 → wantAt y t j = 0) ∧ e = .returned (.tuple #[.agg #[vI vK 1, vI vK (joinTo (bdAt y t) (m + 1)).1, vI vK (joinTo (bdAt y t) (m + 1)).2], vI vK 0]) ∧ Below w.heap.size w w')) →
        e = .returned (.tuple #[(if firstBad (y.row t (m + 1)) ≠ 0 then (kno0, firstBad (y.row t (m + 1))) else (knoNum (joinL (y.row t (m + 1))).1 (joinL (y.row t (m + 1))).2, 0) : Kno × Int).1.v, vI vK (if firstBad (y.row t (m + 1)) ≠ 0 then (kno0, firstBad (y.row t (m + 1))) else (knoNum (joinL (y.row t (m + 1))).1 (joinL (y.row t (m + 1))).2, 0) : Kno × Int).2]) ∧ Below w.heap.size w w' := by
      rintro e w' (⟨k, hk, hz, hne, rfl, hb⟩ | ⟨hz, rfl, hb⟩)
      · rw [firstBad_at hz hne _ hk, if_pos hne]; exact ⟨rfl, hb⟩
      · rw [firstBad_all _ hz, if_neg (by simp), joinL_row]; exact ⟨rfl, hb⟩
    by_cases d : wl = wh
    · subst d
      have m0 : m = 0 := by omega
      subst m0
      have k0 : ((y.slot t).k != 0) = false := by
        cases hb : (y.slot t).k != 0
        · rfl
        · exact absurd ⟨rfl, by simpa using hb⟩ c
      exact (vkept_lone B t wl p y (by omega) e1 k0 w hW).mono fun e w' h => fin h
    · have e2 : IntKind.i64.wrap (wh + 16) = (t : Int) + (m : Int) := by rw [IntWalk.i64_left, wrap64_in (by omega) (by omega)]; omega
      exact (vkept_many B t m wl wh p y (by omega) e1 e2 (fun e => d e.symm) w hW).mono fun e w' h => fin h
end Go.Proofs.YtednmkhdehlojaaGreatDoor
