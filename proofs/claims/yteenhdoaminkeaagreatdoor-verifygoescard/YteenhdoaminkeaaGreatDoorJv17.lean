/-
 All ways of a list of right steps, on plain numbers: where none goes wrong, a machine of which what is known at a step is so ends well from there, behind at least one step and not more than there are, with a number that is between the ends of one way. No program is named here. Conditions: the steps are right; what is known has ends of 64 bits on all ways (lk). What is known stays with ends of 64 bits, in order, behind every look of a verifier, on plain numbers. No program is named here. Conditions: the step is right. What package verify's makes, second and change do. Conditions: the ends are of 64 bits, in order. What package verify's joined returns: the least bound that has all that others have. Conditions: the list's cells hold them.
-/
import Derived.Test.YteenhdoaminkeaaGreatDoorJv16
import Derived.Test.YteenhdoaminkeaaGreatDoorJv7
import Derived.Test.YteenhdoaminkeaaGreatDoorJv12
import Derived.LoopN
set_option maxHeartbeats 40000000
open Go.Value renaming int → vI
open Go.IntKind renaming i64 → vK
open Go.RowKit.Below renaming alloc → bA, setCell → bS, drew → bD, refl → bF
set_option maxRecDepth 1000000
set_option linter.defProp false
set_option linter.unusedVariables false
set_option linter.unusedSimpArgs false
namespace Go.Proofs.YteenhdoaminkeaaGreatDoor
open Go.RowKit
theorem go_sound {C D S : Nat → Int} {R : Nat → Bool} {O N : Nat → Int} {len : Nat} (hr : ∀ i, i < len → z9q (C i) (D i) (S i) (R i) (O i) (N i) len i) (hf : ∀ i, i < len → In64 (O i) ∧ In64 (N i))
  (lk : ∀ i, i < len → ∀ y : Way, y.Ok → ∀ z, z ∈ (y.look (C i) (D i).toNat (S i).toNat (R i) (O i) (N i)).1 → z.2.Ok) :
  ∀ (f : Nat) (st : List (Nat × Way)) (ends E : List Kno), goF C D S R O N f st ends = .inr E → (∀ x, x ∈ st → x.1 < len ∧ x.2.Ok) →
   (∀ b, b ∈ ends → b ∈ E) ∧ ∀ x, x ∈ st → ∀ (a : Abs) (k : Nat), a.Ok → x.2.Has a →
    ∃ n k' a', runF C D S R O N len x.1 k a = .fine n k' a' ∧ k + 1 ≤ k' ∧ k' + x.1 ≤ k + len ∧ ∃ b, b ∈ E ∧ b.l ≤ n ∧ n ≤ b.h := by
 intro f
 induction f with
 | zero =>
  intro st ends E h _
  cases st with
  | nil => rw [goF] at h; cases h; exact ⟨fun b hb => hb, fun x hx => absurd hx (by simp)⟩
  | cons x st => rw [goF] at h; exact absurd h (by simp)
 | succ f ih =>
  intro st ends E h hst
  cases st with
  | nil => rw [goF] at h; cases h; exact ⟨fun b hb => hb, fun x hx => absurd hx (by simp)⟩
  | cons x st =>
   obtain ⟨hx1, hx2⟩ := hst x mcS
   have r := hr x.1 hx1
   have hfx := hf x.1 hx1
   rw [goF] at h
   by_cases h0 : (x.2.look (C x.1) (D x.1).toNat (S x.1).toNat (R x.1) (O x.1) (N x.1)).2 ≠ 0
   ·rw [if_pos h0] at h; exact absurd h (by simp)
   rw [if_neg h0] at h
   have h0' := Classical.byContradiction h0
   obtain ⟨i1, i2⟩ := ih _ _ E h (fun z hz => by
    rcases List.mem_append.mp hz with hz | hz
    ·obtain ⟨u, hu, rfl⟩ := List.mem_map.mp hz
     obtain ⟨u1, u2⟩ := zCo u hu
     have hl := r.last u1
     refine ⟨?_, lk x.1 hx1 x.2 hx2 u hu⟩
     show x.1 + 1 + u.1.toNat < len
     rcases u2 with u2 | ⟨u2, u3⟩
     ·omega
     ·have := r.lead u3; omega
    ·exact hst z (mcO _ hz))
   refine ⟨fun b hb => i1 b (by split; exact List.mem_append_left _ hb; exact hb), fun z hz a k ha hz2 => ?_⟩
   rcases List.mem_cons.mp hz with rfl | hz
   ·by_cases hc : C z.1 = 28
    ·have hw : z0f (z.2.reg 0) = 0 := by
      have e := h0'
      unfold Way.look at e
      rw [if_neg (by omega), if_neg (by omega), if_pos hc] at e
      exact e
     obtain ⟨w0, -, w2, w3⟩ := z4y (hz2.reg 0 (by decide)) hw
     exact ⟨_, _, _, zJo hx1 hc w0, by omega, by omega, z.2.reg 0, i1 _ (by rw [if_pos hc]; exact List.mem_append_right _ (List.mem_singleton.mpr rfl)), w2, w3⟩
    ·have c2 := r.c2
     have d1 := r.d1
     have d2 := r.d2
     have s1 := r.s1
     have s2 := r.s2
     obtain ⟨g1, y', g2, g3⟩ := zP6 hx2 ha hz2 ⟨r.c1, by omega⟩ (by omega) (by omega) hfx.1 hfx.2 r.call h0'
     have ok := doF_ok ha r.c1 r.c2 hc r.d1 r.d2 r.s1 r.s2 hfx.2 (r := R z.1) (o := O z.1)
     obtain ⟨n, k', a', e1, e2, e3, e4⟩ := i2 (z.1 + 1 + (doF (C z.1) (D z.1) (S z.1) (R z.1) (O z.1) (N z.1) a).1.toNat, y') (List.mem_append_left _ (List.mem_map.mpr ⟨_, g2, rfl⟩)) _ (k + 1) ok g3
     have e3' : k' + (z.1 + 1 + (doF (C z.1) (D z.1) (S z.1) (R z.1) (O z.1) (N z.1) a).1.toNat) ≤ k + 1 + len := e3
     exact ⟨n, k', a', (zRa hx1 hc g1).trans e1, by omega, by omega, e4⟩
   ·exact i2 z (List.mem_append_right _ hz) a k ha hz2
theorem zM2 {m : Int} (h : m ≤ 9223372036854775807) : z4d m ≤ 9223372036854775807 := by
 have d := zAx (zFj h)
 unfold z4d
 omega
theorem zBe (u v : Int) : -9223372036854775808 ≤ (fit2 u v).1 ∧ (fit2 u v).2 ≤ 9223372036854775807 := by
 cases h : fits u && fits v
 ·rw [z4c h]; decide
 ·rw [z4g h]
  simp only [Bool.and_eq_true, z28] at h
  exact ⟨h.1.1, h.2.2⟩
theorem pow_lo {k : Nat} (hk : k ≠ 0) (h : k < 64) : (2 : Int) ^ (64 - k) - 1 ≤ 9223372036854775807 := by
 have hle : 2 ^ (64 - k) ≤ 2 ^ 63 := Nat.pow_le_pow_right (by decide) (by omega)
 have := Int.ofNat_le.2 hle
 rw [Int.natCast_pow] at this
 have e : ((2 ^ 63 : Nat) : Int) = 9223372036854775808 := by decide
 rw [e] at this
 have e2 : ((2 : Nat) : Int) = 2 := rfl
 rw [e2] at this
 omega
theorem zBb {x : Int} (k : Nat) (h : In64 x) : In64 (x / 2 ^ k) := by
 have a := zFf (x := x) k
 unfold In64 at h ⊢
 by_cases hx : 0 ≤ x
 ·have := a.1 hx; omega
 ·have := a.2 (by omega); omega
theorem zU5 {c al ah bl bh : Int} (hc : 1 ≤ c ∧ c ≤ 13) (a1 : In64 al) (a2 : In64 ah) (ha : al ≤ ah) (b1 : In64 bl) (b2 : In64 bh) (hb : bl ≤ bh) :
  -9223372036854775808 ≤ (bdV c al ah bl bh).1 ∧ (bdV c al ah bl bh).2 ≤ 9223372036854775807 := by
 have all : -9223372036854775808 ≤ ((-9223372036854775808, 9223372036854775807) : Int × Int).1 ∧ ((-9223372036854775808, 9223372036854775807) : Int × Int).2 ≤ 9223372036854775807 := by decide
 have h : c = 1 ∨ c = 2 ∨ c = 3 ∨ c = 4 ∨ c = 5 ∨ c = 6 ∨ c = 7 ∨ c = 8 ∨ c = 9 ∨ c = 10 ∨ c = 11 ∨ c = 12 ∨ c = 13 := by omega
 have ua1 := a1.1
 have ua2 := a2.2
 have ub1 := b1.1
 have ub2 := b2.2
 rcases h with rfl | rfl | rfl | rfl | rfl | rfl | rfl | rfl | rfl | rfl | rfl | rfl | rfl
 ·rw [zQa]; exact ⟨ub1, ub2⟩
 ·rw [zIu]; exact zBe _ _
 ·rw [zQ9]; exact zBe _ _
 ·rw [zQ8]
  split
  ·rename_i hs
   simp only [Bool.and_eq_true] at hs
   obtain ⟨⟨⟨s1, s2⟩, s3⟩, s4⟩ := hs
   have m1 := z1s (al * bl)
   have m2 := z1s (al * bh)
   have m3 := z1s (ah * bl)
   have m4 := z1s (ah * bh)
   rw [z2j s1 s3] at m1
   rw [z2j s1 s4] at m2
   rw [z2j s2 s3] at m3
   rw [z2j s2 s4] at m4
   show -9223372036854775808 ≤ zF1 al ah bl bh ∧ zF2 al ah bl bh ≤ 9223372036854775807
   unfold zF1 zF2
   generalize al * bl = p at *
   generalize al * bh = q at *
   generalize ah * bl = r at *
   generalize ah * bh = t at *
   omega
  ·exact all
 ·rw [zQ7]
  split
  ·split
   ·have l := Int.ediv_nonneg (by omega : 0 ≤ al) (by omega : 0 ≤ bh)
    have g := Int.ediv_le_self bl (by omega : 0 ≤ ah)
    show -9223372036854775808 ≤ al / bh ∧ ah / bl ≤ 9223372036854775807
    omega
   ·show -9223372036854775808 ≤ (0 : Int) ∧ ah ≤ 9223372036854775807
    omega
  ·exact all
 ·rw [zQ6]
  split
  ·split
   ·show -9223372036854775808 ≤ (0 : Int) ∧ min ah (bh - 1) ≤ 9223372036854775807
    omega
   ·show -9223372036854775808 ≤ (0 : Int) ∧ ah ≤ 9223372036854775807
    omega
  ·exact all
 ·rw [zQ5]
  split
  ·split
   ·show -9223372036854775808 ≤ (0 : Int) ∧ min ah bh ≤ 9223372036854775807
    omega
   ·show -9223372036854775808 ≤ (0 : Int) ∧ ah ≤ 9223372036854775807
    omega
  ·split
   ·show -9223372036854775808 ≤ (0 : Int) ∧ bh ≤ 9223372036854775807
    omega
   ·exact all
 ·rw [zQ4]
  split
  ·have f := zM2 (m := max ah bh) (by omega)
   refine ⟨?_, f⟩
   show -9223372036854775808 ≤ max al bl
   omega
  ·exact all
 ·rw [zQ3]
  split
  ·have f := zM2 (m := max ah bh) (by omega)
   exact ⟨by show -9223372036854775808 ≤ (0 : Int); decide, f⟩
  ·exact all
 ·rw [zGt]
  split
  ·exact zBe _ _
  ·exact all
 ·rw [zGs]
  split
  ·split
   ·exact ⟨ua1, ua2⟩
   ·split
    ·exact ⟨(zBb _ a1).1, (zBb _ a2).2⟩
    ·exact ⟨by show -9223372036854775808 ≤ (0 : Int); decide, pow_lo (by assumption) (z19 _)⟩
  ·split
   ·exact ⟨by show -9223372036854775808 ≤ (0 : Int); decide, ua2⟩
   ·exact all
 ·rw [zGr]
  split
  ·exact ⟨(zBb _ a1).1, (zBb _ a2).2⟩
  ·split
   ·exact ⟨by show -9223372036854775808 ≤ (0 : Int); decide, ua2⟩
   ·split
    ·exact ⟨ua1, by show (-1 : Int) ≤ 9223372036854775807; decide⟩
    ·exact ⟨ua1, ua2⟩
 ·rw [zGq]; exact zBe _ _
theorem zQy {c al ah bl bh : Int} (hc : 1 ≤ c ∧ c ≤ 13) (a1 : In64 al) (a2 : In64 ah) (ha : al ≤ ah) (b1 : In64 bl) (b2 : In64 bh) (hb : bl ≤ bh) :
  In64 (bdV c al ah bl bh).1 ∧ In64 (bdV c al ah bl bh).2 ∧ (bdV c al ah bl bh).1 ≤ (bdV c al ah bl bh).2 := by
 have l := zU5 hc a1 a2 ha b1 b2 hb
 have h := z9d (x := al) (y := bl) hc a1.1 a2.2 b1.1 b2.2 (Int.le_refl _) ha (Int.le_refl _) hb
 unfold In64
 omega
theorem z6f : kno0.Ok := ⟨by decide, by decide, ⟨by decide, by decide⟩, ⟨by decide, by decide⟩, by decide⟩
theorem z4r {l h : Int} (h1 : In64 l) (h2 : In64 h) (h3 : l ≤ h) : (z15 l h).Ok := ⟨by show (0 : Int) ≤ 1; decide, by show (1 : Int) ≤ 5; decide, h1, h2, h3⟩
theorem zCs : (z15 (-9223372036854775808) 9223372036854775807).Ok := z4r ⟨by decide, by decide⟩ ⟨by decide, by decide⟩ (by decide)
theorem z8t {n : Int} (h : In64 n) : (z15 n n).Ok := z4r h h (Int.le_refl _)
theorem z6u {k : Int} {b : Int × Int} (k0 : 0 ≤ k) (k5 : k ≤ 5) (h1 : In64 b.1) (h2 : In64 b.2) (h3 : b.1 ≤ b.2) : (z1h k b).1.Ok := by
 unfold z1h
 split
 ·exact z6f
 ·exact ⟨k0, k5, h1, h2, h3⟩
theorem zFb {c : Int} {a b : Kno} (hc : 1 ≤ c ∧ c ≤ 13) (ka : a.Ok) (kb : b.Ok) : (z2e c a b).1.Ok := by
 obtain ⟨x1, x2, x3⟩ := zQy hc ka.2.2.1 ka.2.2.2.1 ka.2.2.2.2 kb.2.2.1 kb.2.2.2.1 kb.2.2.2.2
 unfold z2e
 split
 ·exact z6f
 split
 ·exact kb
 split
 ·exact z4r x1 x2 x3
 split
 ·exact z6u ka.1 ka.2.1 x1 x2 x3
 split
 ·exact z6u kb.1 kb.2.1 x1 x2 x3
 ·exact z6f
theorem Way.Ok.putReg {y : Way} (h : y.Ok) (d : Nat) {x : Kno} (hx : x.Ok) : (y.putReg d x).Ok :=
 ⟨fun i hi => by show (if i = d then x else y.reg i).Ok; split; exact hx; exact h.reg i hi, h.slot⟩
theorem Way.Ok.putSlot {y : Way} (h : y.Ok) (d : Nat) {x : Kno} (hx : x.Ok) : (y.putSlot d x).Ok :=
 ⟨h.reg, fun i hi => by show (if i = d then x else y.slot i).Ok; split; exact hx; exact h.slot i hi⟩
theorem Way.Ok.lose {y : Way} (h : y.Ok) : y.lose.Ok :=
 ⟨fun i hi => by show (if 1 ≤ i ∧ i ≤ 5 then kno0 else y.reg i).Ok; split; exact z6f; exact h.reg i hi, h.slot⟩
theorem z8w : ∀ (l : List Kno) (p : Int × Int), (∀ x, x ∈ l → x.Ok) → In64 p.1 → In64 p.2 → p.1 ≤ p.2 → In64 (z27 p l).1 ∧ In64 (z27 p l).2 ∧ (z27 p l).1 ≤ (z27 p l).2
 | [], _, _, h1, h2, h3 => ⟨h1, h2, h3⟩
 | x :: l, p, hl, h1, h2, h3 => by
  rw [z27]
  have hx := hl x mcS
  have k1 := hx.2.2.1
  have k2 := hx.2.2.2.1
  have k3 := hx.2.2.2.2
  refine z8w l _ (fun z hz => hl z (mcO _ hz)) ?_ ?_ ?_
  ·show In64 (min p.1 x.l)
   unfold In64 at *; omega
  ·show In64 (max p.2 x.h)
   unfold In64 at *; omega
  ·show min p.1 x.l ≤ max p.2 x.h
   omega
theorem zPh {l : List Kno} (hl : ∀ x, x ∈ l → x.Ok) : In64 (z5h l).1 ∧ In64 (z5h l).2 ∧ (z5h l).1 ≤ (z5h l).2 := by
 cases l with
 | nil => exact ⟨⟨by decide, by decide⟩, ⟨by decide, by decide⟩, by decide⟩
 | cons x l =>
  have hx := hl x mcS
  exact z8w l _ (fun z hz => hl z (mcO _ hz)) hx.2.2.1 hx.2.2.2.1 hx.2.2.2.2
theorem zT9 {y : Way} {p : Int × Int} (hk : y.Ok) (h0 : -16 ≤ p.1) (h3 : p.2 ≤ -1) (h : p.1 ≤ p.2) : (y.kept p).1.Ok := by
 unfold Way.kept
 split
 ·exact hk.slot _ (by omega)
 split
 ·exact z6f
 ·have hj := zPh (l := y.row (p.1 + 16).toNat (p.2 - p.1 + 1).toNat) (fun x hx => by
   obtain ⟨i, hi, rfl⟩ := List.mem_map.mp hx
   obtain ⟨j, hj, e⟩ := List.mem_range'.mp hi
   exact hk.slot _ (by omega))
  exact z4r hj.1 hj.2.1 hj.2.2
theorem z6t {x : Kno} {o : Int} (hx : x.Ok) (ho : In64 o) : (z3z x o).1 ≤ (z3z x o).2 := (zQy ⟨by decide, by decide⟩ hx.2.2.1 hx.2.2.2.1 hx.2.2.2.2 ho ho (Int.le_refl _)).2.2
theorem z48 {x : Kno} {o : Int} (h : (z0l x o).2 = 0) : (x.k ≠ 0 ∧ x.k ≠ 1 ∧ x.k ≠ 5) ∧ (z0l x o).1 = z3z x o ∧ (z1u x.k).1 ≤ (z3z x o).1 ∧ (z3z x o).2 ≤ (z1u x.k).2 := by
 unfold z0l at h ⊢
 by_cases h0 : x.k = 0
 ·rw [if_pos h0] at h; exact absurd h (by decide)
 rw [if_neg h0] at h ⊢
 by_cases h1 : x.k = 1 ∨ x.k = 5
 ·rw [if_pos h1] at h; exact absurd h (by decide)
 rw [if_neg h1] at h ⊢
 by_cases h2 : (z3z x o).1 < (z1u x.k).1 ∨ (z1u x.k).2 < (z3z x o).2
 ·rw [if_pos h2] at h; exact absurd h (by decide)
 rw [if_neg h2]
 exact ⟨by omega, rfl, by omega, by omega⟩
theorem zLe {y : Way} {d s : Nat} {o : Int} (hk : y.Ok) (hs : s < 11) (ho : In64 o) : (y.load d s o).2.Ok := by
 unfold Way.load
 split
 ·exact hk
 rename_i h
 have h' := Classical.byContradiction h
 split
 ·rename_i h3
  split
  ·exact hk
  ·obtain ⟨-, e, r1, r2⟩ := z48 h'
   rw [h3] at r1 r2
   rw [e]
   exact hk.putReg d (zT9 hk r1 r2 (z6t (hk.reg s hs) ho))
 ·exact hk.putReg d zCs
theorem zNc {y : Way} {p v : Kno} {o : Int} (hk : y.Ok) (hv : v.Ok) : (y.store p v o).2.Ok := by
 unfold Way.store
 split
 ·exact hk
 split
 ·exact hk
 split
 ·exact hk
 split
 ·exact hk
 split
 ·exact hk
 ·exact hk.putSlot _ hv
theorem zMa {y : Way} {what : Int} (hk : y.Ok) : (y.call what).2.Ok := by
 unfold Way.call
 split
 ·exact hk
 split
 ·exact hk.lose.putReg 0 ⟨by show (0 : Int) ≤ 5; decide, by show (5 : Int) ≤ 5; decide, ⟨by show -9223372036854775808 ≤ (0 : Int); decide, by show (0 : Int) ≤ 9223372036854775807; decide⟩, ⟨by show -9223372036854775808 ≤ (0 : Int); decide, by show (0 : Int) ≤ 9223372036854775807; decide⟩, by show (0 : Int) ≤ 0; decide⟩
 split
 ·exact hk.lose.putReg 0 zCs
 ·exact hk.lose.putReg 0 (z8t ⟨by decide, by decide⟩)
theorem zD9 {y : Way} {c : Int} {d s : Nat} {r : Bool} {n : Int} (hk : y.Ok) (hc : 1 ≤ c ∧ c ≤ 13) (hd : d < 11) (hs : s < 11) (hn : In64 n) : (y.change c d s r n).2.Ok := by
 unfold Way.change
 split
 ·exact hk.putReg d (zFb hc (hk.reg d hd) (z2u hk hs hn))
 ·exact hk
theorem z6q {y : Way} {c : Int} {d s : Nat} {r : Bool} {n : Int} (hk : y.Ok) (hc : 15 ≤ c ∧ c ≤ 24) (hd : d < 11) (hs : s < 11) (hn : In64 n) : (y.narrow c d s r n).2.Ok := by
 have o1 := hk.reg d hd
 have o2 := z2u (r := r) (n := n) hk hs hn
 have nl := (zG0 (x := (y.reg d).l) (y := (y.second s r n).l) hc o1.2.2.1.1 o1.2.2.2.1.2 o2.2.2.1.1 o2.2.2.2.1.2 (Int.le_refl _) o1.2.2.2.2 (Int.le_refl _) o2.2.2.2.2).2
 unfold Way.narrow
 split
 ·exact hk
 rename_i h
 obtain ⟨n1, n2, n3, n4, n5, n6⟩ := nl (by cases e : (narV c (y.reg d).l (y.reg d).h (y.second s r n).l (y.second s r n).h).2.2 with | false => exact absurd e h | true => rfl)
 have q1 := o1.2.2.1
 have q2 := o1.2.2.2.1
 have q3 := o2.2.2.1
 have q4 := o2.2.2.2.1
 generalize narV c (y.reg d).l (y.reg d).h (y.second s r n).l (y.second s r n).h = z at *
 unfold In64 at q1 q2 q3 q4
 have w1 : (z15 z.1.1 z.1.2).Ok := z4r ⟨by omega, by omega⟩ ⟨by omega, by omega⟩ n1
 have w2 : (z15 z.2.1.1 z.2.1.2).Ok := z4r ⟨by omega, by omega⟩ ⟨by omega, by omega⟩ n2
 split
 ·exact hk
 split
 ·exact (hk.putReg d w1).putReg s w2
 ·exact hk.putReg d w1
theorem ask_ok {y : Way} {c : Int} {d s : Nat} {r : Bool} {o n : Int} (hk : y.Ok) (hc : 15 ≤ c ∧ c ≤ 24) (hd : d < 11) (hs : s < 11) (hn : In64 n) : ∀ z, z ∈ (y.ask c d s r o n).1 → z.2.Ok := by
 intro z hz
 unfold Way.ask at hz
 split at hz
 ·exact absurd hz (by simp)
 split at hz
 ·unfold Way.askNumbers at hz
  have ho := zCh (x := 0) (y := 0) hc
  rcases List.mem_append.mp hz with hz | hz
  ·split at hz
   ·rw [List.mem_singleton.mp hz]; exact z6q hk ho.2.2 hd hs hn
   ·exact absurd hz (by simp)
  ·split at hz
   ·rw [List.mem_singleton.mp hz]; exact z6q hk hc hd hs hn
   ·exact absurd hz (by simp)
 split at hz
 ·exact absurd hz (by simp)
 ·unfold Way.askPlace at hz
  split at hz
  ·rw [List.mem_singleton.mp hz]; exact hk
  ·rcases List.mem_cons.mp hz with hz | hz
   ·rw [hz]; exact hk.putReg d (z8t ⟨by decide, by decide⟩)
   ·rw [List.mem_singleton.mp hz]
    exact hk.putReg d ⟨by show (0 : Int) ≤ 4; decide, by show (4 : Int) ≤ 5; decide, ⟨by show -9223372036854775808 ≤ (0 : Int); decide, by show (0 : Int) ≤ 9223372036854775807; decide⟩, ⟨by show -9223372036854775808 ≤ (0 : Int); decide, by show (0 : Int) ≤ 9223372036854775807; decide⟩, by show (0 : Int) ≤ 0; decide⟩
theorem zLd {y : Way} {c : Int} {d s : Nat} {r : Bool} {o n : Int} (hk : y.Ok) (c1 : 1 ≤ c) (c2 : c ≤ 28) (hd : d < 11) (hs : s < 11) (ho : In64 o) (hn : In64 n) : ∀ z, z ∈ (y.look c d s r o n).1 → z.2.Ok := by
 intro z hz
 unfold Way.look at hz
 by_cases h1 : 15 ≤ c ∧ c ≤ 24
 ·rw [if_pos h1] at hz; exact ask_ok hk h1 hd hs hn z hz
 rw [if_neg h1] at hz
 by_cases h2 : c = 14
 ·rw [if_pos h2] at hz; rw [List.mem_singleton.mp hz]; exact hk
 rw [if_neg h2] at hz
 by_cases h3 : c = 28
 ·rw [if_pos h3] at hz; exact absurd hz (by simp)
 rw [if_neg h3] at hz
 by_cases h4 : c = 25
 ·rw [if_pos h4] at hz
  split at hz
  ·rw [List.mem_singleton.mp hz]; exact zLe hk hs ho
  ·exact absurd hz (by simp)
 rw [if_neg h4] at hz
 by_cases h5 : c = 26
 ·rw [if_pos h5] at hz
  split at hz
  ·rw [List.mem_singleton.mp hz]; exact zNc hk (z2u hk hs hn)
  ·exact absurd hz (by simp)
 rw [if_neg h5] at hz
 by_cases h6 : c = 27
 ·rw [if_pos h6] at hz
  split at hz
  ·rw [List.mem_singleton.mp hz]; exact zMa hk
  ·exact absurd hz (by simp)
 rw [if_neg h6] at hz
 split at hz
 ·rw [List.mem_singleton.mp hz]; exact zD9 hk ⟨by omega, by omega⟩ hd hs hn
 ·exact absurd hz (by simp)
theorem zDe : way0.Ok := by
 refine ⟨fun i _ => ?_, fun _ _ => z6f⟩
 show (if i = 1 then (⟨2, 0, 0⟩ : Kno) else if i = 10 then ⟨3, 0, 0⟩ else kno0).Ok
 split
 ·exact ⟨by decide, by decide, ⟨by decide, by decide⟩, ⟨by decide, by decide⟩, by decide⟩
 split
 ·exact ⟨by decide, by decide, ⟨by decide, by decide⟩, ⟨by decide, by decide⟩, by decide⟩
 ·exact z6f
theorem go_from_start {C D S : Nat → Int} {R : Nat → Bool} {O N : Nat → Int} {len f : Nat} {E : List Kno} (hr : ∀ i, i < len → z9q (C i) (D i) (S i) (R i) (O i) (N i) len i) (hf : ∀ i, i < len → In64 (O i) ∧ In64 (N i)) (h0 : 0 < len)
  (h : goF C D S R O N f [(0, way0)] [] = .inr E) (a : Abs) (ha : a.Ok) (hy : way0.Has a) :
  ∃ n k a', runF C D S R O N len 0 0 a = .fine n k a' ∧ 1 ≤ k ∧ k ≤ len ∧ ∃ b, b ∈ E ∧ b.l ≤ n ∧ n ≤ b.h := by
 obtain ⟨-, g⟩ := go_sound hr hf (fun i hi y hy z hz => by
  have r := hr i hi
  have d1 := r.d1
  have d2 := r.d2
  have s1 := r.s1
  have s2 := r.s2
  exact zLd hy r.c1 r.c2 (by omega) (by omega) (hf i hi).1 (hf i hi).2 z hz) f _ _ E h (fun x hx => by rw [List.mem_singleton.mp hx]; exact ⟨h0, zDe⟩)
 obtain ⟨n, k, a', e1, e2, e3, e4⟩ := g (0, way0) (List.mem_singleton.mpr rfl) a 0 ha hy
 exact ⟨n, k, a', e1, by omega, by have : k + 0 ≤ 0 + len := e3; omega, e4⟩
end Go.Proofs.YteenhdoaminkeaaGreatDoor
namespace Go.Proofs.YteenhdoaminkeaaGreatDoor
open Go.ChangeShapes Go.WideShapes Go.ChangeAt Go.RowKit
attribute [local simp] z00 z0y z0o
theorem zH0 (code : Int) (a b : Kno) (ka : a.Ok) (kb : b.Ok) (w : World) : Calls Tryz.prog 65 #[vI vK code, a.v, b.v] w fun e w' => e = .returned (.tuple #[(z2e code a b).1.v, vI vK (z2e code a b).2]) ∧ Below w.heap.size w w' := by
 obtain ⟨ak, al, ah⟩ := a
 obtain ⟨bk, bl, bh⟩ := b
 have HD := fun W : World => zMr code al ah bl bh ka.2.2.1.1 ka.2.2.1.2 ka.2.2.2.1.1 ka.2.2.2.1.2 kb.2.2.1.1 kb.2.2.1.2 kb.2.2.2.1.1 kb.2.2.2.1.2 ka.2.2.2.2 kb.2.2.2.2 W
 unfold z2e
 have tb : ∀ {x y : Int}, ¬ x = y → (x == y) = false := fun h => by simpa using h
 have tt : ∀ {x y : Int}, x = y → (x == y) = true := fun h => by simpa using h
 by_cases h0 : bk = 0
 ·rw [if_pos (Or.inl h0)]; exact vmk_b0 code ak al ah bk bl bh (tt h0) w
 by_cases h1 : ak = 0
 ·by_cases h2 : code = 1
  ·rw [if_neg (by simp [h0, h2]), if_pos h2]; exact zN5 code ak al ah bk bl bh (tb h0) (tt h1) (by simp [h2]) (tt h2) w
  ·rw [if_pos (Or.inr ⟨h1, h2⟩)]; exact vmk_a0 code ak al ah bk bl bh (tb h0) (tt h1) (by simpa using h2) w
 by_cases h2 : code = 1
 ·rw [if_neg (by simp [h0, h1]), if_pos h2]; exact zN4 code ak al ah bk bl bh (tb h0) (tb h1) (tt h2) w
 rw [if_neg (by simp [h0, h1]), if_neg h2]
 generalize bdV code al ah bl bh = t at *
 obtain ⟨dl, dh⟩ := t
 have pf : ∀ {k : Int}, ¬ (k = 2 ∨ k = 3 ∨ k = 4) → z1p k = false := fun {k} h => by
  cases e : z1p k
  ·rfl
  ·exact absurd ((z3c k).1 e) h
 by_cases h3 : ak = 1
 ·have pa : z1p ak = false := pf (by omega)
  by_cases h4 : bk = 1
  ·rw [if_pos ⟨h3, h4⟩]; exact zN2 code ak al ah bk bl bh dl dh HD (tb h0) (tb h1) (tb h2) (tt h3) (tt h4) w
  ·rw [if_neg (fun e => h4 e.2), if_neg (by show ¬ ((ak = 2 ∨ ak = 3 ∨ ak = 4) ∧ bk = 1 ∧ (code = 2 ∨ code = 3)); omega)]
   by_cases h5 : bk = 2 ∨ bk = 3 ∨ bk = 4
   ·by_cases h6 : code = 2
    ·rw [if_pos ⟨h3, h5, h6⟩]
     rcases hF : z1h bk (dl, dh) with ⟨⟨gk, gl, gh⟩, E⟩
     exact zN3 code ak al ah bk bl bh dl dh HD gk gl gh E hF pa ((z3c bk).2 h5) (tb h0) (tb h1) (tb h2) (tt h3) (tb h4) (tt h6) w
    ·rw [if_neg (fun e => h6 e.2.2)]; exact zR5 code ak al ah bk bl bh pa ((z3c bk).2 h5) (tb h0) (tb h1) (tb h2) (tt h3) (tb h4) (tb h6) w
   ·rw [if_neg (fun e => h5 e.2.1)]; exact vmk_nb code ak al ah bk bl bh pa (pf h5) (tb h0) (tb h1) (tb h2) (tt h3) (tb h4) w
 ·rw [if_neg (fun e => h3 e.1)]
  by_cases h5 : ak = 2 ∨ ak = 3 ∨ ak = 4
  ·have pa := (z3c ak).2 h5
   by_cases h4 : bk = 1
   ·by_cases h6 : code = 2
    ·rw [if_pos ⟨h5, h4, Or.inl h6⟩]
     rcases hF : z1h ak (dl, dh) with ⟨⟨gk, gl, gh⟩, E⟩
     exact zN1 code ak al ah bk bl bh dl dh HD gk gl gh E hF pa (tb h0) (tb h1) (tb h2) (tb h3) (tt h4) (tt h6) w
    ·by_cases h7 : code = 3
     ·rw [if_pos ⟨h5, h4, Or.inr h7⟩]
      rcases hF : z1h ak (dl, dh) with ⟨⟨gk, gl, gh⟩, E⟩
      exact zN0 code ak al ah bk bl bh dl dh HD gk gl gh E hF pa (tb h0) (tb h1) (tb h2) (tb h3) (tt h4) (tb h6) (tt h7) w
     ·rw [if_neg (fun e => e.2.2.elim h6 h7), if_neg (fun e => h3 e.1)]; exact zR4 code ak al ah bk bl bh pa (tb h0) (tb h1) (tb h2) (tb h3) (tt h4) (tb h6) (tb h7) w
   ·rw [if_neg (fun e => h4 e.2.1), if_neg (fun e => h3 e.1)]; exact vmk_pb code ak al ah bk bl bh pa (tb h0) (tb h1) (tb h2) (tb h3) (tb h4) w
  ·rw [if_neg (fun e => h5 e.1), if_neg (fun e => h3 e.1)]; exact vmk_m code ak al ah bk bl bh (pf h5) (tb h0) (tb h1) (tb h2) (tb h3) w
theorem zDi (B s : Nat) (c d o n p : Int) (y : Way) (hs : s < 11) (w : World) (hW : z05 w B p y) :
  Calls Tryz.prog 58 #[.pointer (some ⟨B, 0, none⟩), .agg #[vI vK c, vI vK d, vI vK s, .bool true, vI vK o, vI vK n]] w fun e w' => e = .returned (y.reg s).v ∧ Below w.heap.size w w' := by
 have hK0 : Blk w [(w.heap.size, .cells #[vI vK c, vI vK d, vI vK s, .bool true, vI vK o, vI vK n] 59 (0, 0)), (w.heap.size + 1, .cells #[vI vK 0, vI vK 0, vI vK 0] 72 (0, 0)), (B, .cells (z06 p y) 76 (0, 0))] _ := (((Blk.nil (((bF _ _).alloc (Nat.le_refl _) _).alloc (by simp) _)).cons ((hW.alloc _).alloc _)).cons (heap_alloc2_new w (.cells #[vI vK c, vI vK d, vI vK s, .bool true, vI vK o, vI vK n] 59) (.cells #[vI vK 0, vI vK 0, vI vK 0] 72))).cons (by rw [Below.heap_alloc _ _ _ (by simp)]; exact heap_alloc_new _ _)
 have hB := hW.lt
 have hs0 : (0 : Int) ≤ (s : Int) := by omega
 have hs1 : (s : Int) < 11 := by omega
 go_enter Tryz.func58, Tryz.ntmps58
 have hC := hK0
 obtain ⟨p0, p1, p2, p3, p4, p5, ltS⟩ := row6 (hC.2 _ mcS); obtain ⟨z0, z1, z2, zf0, zf1, zf2, zlt⟩ := row3 (hC.2 _ (mcO _ mcS)); have yW : z05 _ B _ _ := (hC.2 _ (mcO _ (mcO _ mcS))); have ylt := yW.lt; obtain ⟨i0, i1, i2⟩ := yW.reg hs
 go_wp2_with fail
 clear p0 p1 p2 p3 p4 p5 ltS z0 z1 z2 zf0 zf1 zf2 zlt yW ylt i0 i1 i2 hC
 refine z0n (C := Blk w [(w.heap.size, .cells #[vI vK c, vI vK d, vI vK s, .bool true, vI vK o, vI vK n] 59 (0, 0)), (w.heap.size + 1, .cells #[vI vK 0, vI vK 0, vI vK 0] 72 (0, 0)), (B, .cells (z06 p y) 76 (0, 0))]) (n0 := w.heap.size) 7 [] [] (by kernel_rfl) (by kernel_rfl) (fun d _ _ _ _ h => by cases d <;> exact h) (Blk.stable _ _) (Blk.room0 _ _) hK0.drew trivial ?_
 simp only [List.take_succ_cons, List.take_zero, List.drop_succ_cons, List.drop_zero, List.length_nil, Nat.reduceAdd]
 repeat (first
  | (refine z0k (by rfl) ?_; simp only [Act.put, siA, scZ, scS])
  | (refine z0b (by rfl) (v := ?_) ?_ ?_; rotate_left; (intro w2 hC; obtain ⟨p0, p1, p2, p3, p4, p5, ltS⟩ := row6 (hC.2 _ mcS); obtain ⟨z0, z1, z2, zf0, zf1, zf2, zlt⟩ := row3 (hC.2 _ (mcO _ mcS)); have yW : z05 _ B _ _ := (hC.2 _ (mcO _ (mcO _ mcS))); have ylt := yW.lt; obtain ⟨i0, i1, i2⟩ := yW.reg hs; go_simp; try with_reducible rfl); simp only [Act.put, siA, scZ, scS]))
 refine z0t ?_
 intro w3 hC hB3
 obtain ⟨p0, p1, p2, p3, p4, p5, ltS⟩ := row6 (hC.2 _ mcS); obtain ⟨z0, z1, z2, zf0, zf1, zf2, zlt⟩ := row3 (hC.2 _ (mcO _ mcS)); have yW : z05 _ B _ _ := (hC.2 _ (mcO _ (mcO _ mcS))); have ylt := yW.lt; obtain ⟨i0, i1, i2⟩ := yW.reg hs
 have hbw := hC.1
 go_wp2_with fail
 exact bodyPost_ret (v := (y.reg s).v) (by simp [results, Tryz.results58, go_sem, Kno.v, *]) rfl ⟨rfl, (by repeat' first | with_reducible (first | exact hbw | exact bF _ _ | refine bA ?_ ?_ _ | refine bS ?_ ?_ _ | refine bD ?_) | ((try dsimp only); omega) | (simp; done) | (simp; omega))⟩
theorem zDj (B : Nat) (c d s o n : Int) (w : World) :
  Calls Tryz.prog 58 #[.pointer (some ⟨B, 0, none⟩), .agg #[vI vK c, vI vK d, vI vK s, .bool false, vI vK o, vI vK n]] w fun e w' => e = .returned (z15 n n).v ∧ Below w.heap.size w w' := by
 have hK0 : Blk w [(w.heap.size, .cells #[vI vK c, vI vK d, vI vK s, .bool false, vI vK o, vI vK n] 59 (0, 0)), (w.heap.size + 1, .cells #[vI vK 0, vI vK 0, vI vK 0] 72 (0, 0))] _ := ((Blk.nil (((bF _ _).alloc (Nat.le_refl _) _).alloc (by simp) _)).cons (heap_alloc2_new w (.cells #[vI vK c, vI vK d, vI vK s, .bool false, vI vK o, vI vK n] 59) (.cells #[vI vK 0, vI vK 0, vI vK 0] 72))).cons (by rw [Below.heap_alloc _ _ _ (by simp)]; exact heap_alloc_new _ _)
 go_enter Tryz.func58, Tryz.ntmps58
 go_wp2_with (first
  | (go_at_call 39; go_must (refine (z2t _ _).mono ?_; rintro e w1 ⟨rfl, hb1⟩; have hK1 := hK0.later hb1))
  | (go_at_call 62; go_must (refine (z1k _ _ _).mono ?_; rintro e w2 ⟨rfl, hb2⟩; simp only [Kno.v, z15]; have hK2 := hK1.later hb2; have hbw := hK2.1; obtain ⟨z0, z1, z2, zf0, zf1, zf2, zlt⟩ := row3 (hK2.2 _ (mcO _ mcS))))
  | fail)
 exact bodyPost_ret (v := (z15 n n).v) (by simp [results, Tryz.results58, go_sem, Kno.v, z15, *]) rfl ⟨rfl, (by repeat' first | with_reducible (first | exact hbw | exact bF _ _ | refine bA ?_ ?_ _ | refine bS ?_ ?_ _ | refine bD ?_ | refine z08 ?_ ?_ _) | ((try dsimp only); omega) | (simp; done) | (simp; omega))⟩
theorem z2g (B s : Nat) (c d o n : Int) (r : Bool) (p : Int) (y : Way) (hs : s < 11) (w : World) (hW : z05 w B p y) :
  Calls Tryz.prog 58 #[.pointer (some ⟨B, 0, none⟩), .agg #[vI vK c, vI vK d, vI vK s, .bool r, vI vK o, vI vK n]] w fun e w' => e = .returned (y.second s r n).v ∧ Below w.heap.size w w' := by
 cases r with
 | true => exact zDi B s c d o n p y hs w hW
 | false => exact zDj B c d s o n w
theorem zHa (B d s : Nat) (c o n p : Int) (r : Bool) (y : Way) (hd : d < 11) (hs : s < 11) (mk ml mh E : Int) (HM : Hid (∀ W : World, Calls Tryz.prog 65 #[vI vK c, .agg #[vI vK (y.reg d).k, vI vK (y.reg d).l, vI vK (y.reg d).h], (y.second s r n).v] W fun e w' => e = .returned (.tuple #[.agg #[vI vK mk, vI vK ml, vI vK mh], vI vK E]) ∧ Below W.heap.size W w')) (hE : (E == 0) = false) (w : World) (hW : z05 w B p y) :
  Calls Tryz.prog 47 #[.pointer (some ⟨B, 0, none⟩), .agg #[vI vK c, vI vK d, vI vK s, .bool r, vI vK o, vI vK n]] w fun e w' => e = .returned (vI vK E) ∧ Below w.heap.size w w' := by
 have hK0 : Blk w [(w.heap.size, .cells #[vI vK c, vI vK d, vI vK s, .bool r, vI vK o, vI vK n] 59 (0, 0)), (B, .cells (z06 p y) 76 (0, 0))] _ := ((Blk.nil ((bF _ _).alloc (Nat.le_refl _) _)).cons (hW.alloc _)).cons (heap_alloc_new w (.cells #[vI vK c, vI vK d, vI vK s, .bool r, vI vK o, vI vK n] 59))
 have hB := hW.lt
 have hs0 : (0 : Int) ≤ (s : Int) := by omega
 have hs1 : (s : Int) < 11 := by omega
 have hd0 : (0 : Int) ≤ (d : Int) := by omega
 have hd1 : (d : Int) < 11 := by omega
 go_enter Tryz.func47, Tryz.ntmps47
 go_wp2_with fail
 refine z0n (C := Blk w [(w.heap.size, .cells #[vI vK c, vI vK d, vI vK s, .bool r, vI vK o, vI vK n] 59 (0, 0)), (B, .cells (z06 p y) 76 (0, 0))]) (n0 := w.heap.size + 1) 16 [15] [.cells #[vI vK 0, vI vK 0, vI vK 0] 72 (0, 0)] (by kernel_rfl) (by kernel_rfl) (fun d _ _ _ _ h => by cases d <;> exact h) (Blk.stable _ _) (Blk.room w mcS) hK0.drew ⟨⟨rfl, fun a w2 hC => by go_simp; try rfl⟩, trivial⟩ ?_
 simp only [List.take_succ_cons, List.take_zero, List.drop_succ_cons, List.drop_zero, List.length_cons, List.length_nil, Nat.reduceAdd]
 repeat (first
  | (refine z0k (by rfl) ?_; simp only [Act.put, siA, scZ, scS])
  | (refine z0b (by rfl) (v := ?_) ?_ ?_; rotate_left; (intro w2 hC; obtain ⟨p0, p1, p2, p3, p4, p5, ltS⟩ := row6 (hC.2 _ mcS); have yW : z05 _ B _ _ := (hC.2 _ (mcO _ mcS)); have ylt := yW.lt; obtain ⟨i0, i1, i2⟩ := yW.reg hd; go_simp; try with_reducible rfl); simp only [Act.put, siA, scZ, scS])
  | (refine z0p (by rfl) ?_; apply Exists.intro; refine ⟨fun w2 hC => ?_, ?_⟩; (obtain ⟨p0, p1, p2, p3, p4, p5, ltS⟩ := row6 (hC.2 _ mcS); have yW : z05 _ B _ _ := (hC.2 _ (mcO _ mcS)); have ylt := yW.lt; obtain ⟨i0, i1, i2⟩ := yW.reg hd; go_simp; apply z0v; first | (go_at_call 58; exact z2g B s c d o n r p y hs w2 yW) | (go_at_call 65; exact HM.out w2)); simp only [Act.put, siA, scZ, scS]))
 refine z0t ?_
 intro L h5 g5 w3 hC hB3
 have bL := hB3 L _ (FB.at_new _ _ _)
 obtain ⟨l0, l1, l2, lf0, lf1, lf2, llt⟩ := row3 bL
 obtain ⟨p0, p1, p2, p3, p4, p5, ltS⟩ := row6 (hC.2 _ mcS); have yW : z05 _ B _ _ := (hC.2 _ (mcO _ mcS)); have ylt := yW.lt; obtain ⟨i0, i1, i2⟩ := yW.reg hd
 have hbw := hC.1
 have n1 : w.heap.size ≠ L := by omega
 have n2 : B ≠ L := by omega
 simp only [z4l]
 go_wp2_with fail
 go_ret
 exact ⟨rfl, (by repeat' first | with_reducible (first | exact hbw | exact bF _ _ | refine bA ?_ ?_ _ | refine bS ?_ ?_ _ | refine bD ?_ | refine z08 ?_ ?_ _) | ((try dsimp only); omega) | (simp; done) | (simp; omega))⟩
theorem zDr (B d s : Nat) (c o n p : Int) (r : Bool) (y : Way) (hd : d < 11) (hs : s < 11) (mk ml mh E : Int) (HM : Hid (∀ W : World, Calls Tryz.prog 65 #[vI vK c, .agg #[vI vK (y.reg d).k, vI vK (y.reg d).l, vI vK (y.reg d).h], (y.second s r n).v] W fun e w' => e = .returned (.tuple #[.agg #[vI vK mk, vI vK ml, vI vK mh], vI vK E]) ∧ Below W.heap.size W w')) (hE : (E == 0) = true) (w : World) (hW : z05 w B p y) :
  Calls Tryz.prog 47 #[.pointer (some ⟨B, 0, none⟩), .agg #[vI vK c, vI vK d, vI vK s, .bool r, vI vK o, vI vK n]] w fun e w' => e = .returned (vI vK 0) ∧ Kept B w w' ∧ z05 w' B p (y.putReg d ⟨mk, ml, mh⟩) := by
 have hK0 : Blk w [(w.heap.size, .cells #[vI vK c, vI vK d, vI vK s, .bool r, vI vK o, vI vK n] 59 (0, 0)), (B, .cells (z06 p y) 76 (0, 0))] _ := ((Blk.nil ((bF _ _).alloc (Nat.le_refl _) _)).cons (hW.alloc _)).cons (heap_alloc_new w (.cells #[vI vK c, vI vK d, vI vK s, .bool r, vI vK o, vI vK n] 59))
 have hB := hW.lt
 have hs0 : (0 : Int) ≤ (s : Int) := by omega
 have hs1 : (s : Int) < 11 := by omega
 have hd0 : (0 : Int) ≤ (d : Int) := by omega
 have hd1 : (d : Int) < 11 := by omega
 go_enter Tryz.func47, Tryz.ntmps47
 go_wp2_with fail
 refine z0n (C := Blk w [(w.heap.size, .cells #[vI vK c, vI vK d, vI vK s, .bool r, vI vK o, vI vK n] 59 (0, 0)), (B, .cells (z06 p y) 76 (0, 0))]) (n0 := w.heap.size + 1) 16 [15] [.cells #[vI vK 0, vI vK 0, vI vK 0] 72 (0, 0)] (by kernel_rfl) (by kernel_rfl) (fun d _ _ _ _ h => by cases d <;> exact h) (Blk.stable _ _) (Blk.room w mcS) hK0.drew ⟨⟨rfl, fun a w2 hC => by go_simp; try rfl⟩, trivial⟩ ?_
 simp only [List.take_succ_cons, List.take_zero, List.drop_succ_cons, List.drop_zero, List.length_cons, List.length_nil, Nat.reduceAdd]
 repeat (first
  | (refine z0k (by rfl) ?_; simp only [Act.put, siA, scZ, scS])
  | (refine z0b (by rfl) (v := ?_) ?_ ?_; rotate_left; (intro w2 hC; obtain ⟨p0, p1, p2, p3, p4, p5, ltS⟩ := row6 (hC.2 _ mcS); have yW : z05 _ B _ _ := (hC.2 _ (mcO _ mcS)); have ylt := yW.lt; obtain ⟨i0, i1, i2⟩ := yW.reg hd; go_simp; try with_reducible rfl); simp only [Act.put, siA, scZ, scS])
  | (refine z0p (by rfl) ?_; apply Exists.intro; refine ⟨fun w2 hC => ?_, ?_⟩; (obtain ⟨p0, p1, p2, p3, p4, p5, ltS⟩ := row6 (hC.2 _ mcS); have yW : z05 _ B _ _ := (hC.2 _ (mcO _ mcS)); have ylt := yW.lt; obtain ⟨i0, i1, i2⟩ := yW.reg hd; go_simp; apply z0v; first | (go_at_call 58; exact z2g B s c d o n r p y hs w2 yW) | (go_at_call 65; exact HM.out w2)); simp only [Act.put, siA, scZ, scS]))
 refine z0t ?_
 intro L h5 g5 w3 hC hB3
 have bL := hB3 L _ (FB.at_new _ _ _)
 obtain ⟨l0, l1, l2, lf0, lf1, lf2, llt⟩ := row3 bL
 obtain ⟨p0, p1, p2, p3, p4, p5, ltS⟩ := row6 (hC.2 _ mcS); have yW : z05 _ B _ _ := (hC.2 _ (mcO _ mcS)); have ylt := yW.lt; obtain ⟨i0, i1, i2⟩ := yW.reg hd
 have hbw := hC.1
 have n1 : w.heap.size ≠ L := by omega
 have n2 : B ≠ L := by omega
 simp only [z4l]
 go_wp2_with fail
 have hK3 : Blk w [(w.heap.size, .cells #[vI vK c, vI vK d, vI vK s, .bool r, vI vK o, vI vK n] 59 (0, 0)), (B, .cells (z06 p y) 76 (0, 0)), (L, .cells #[vI vK mk, vI vK ml, vI vK mh] 72 (0, 0))] _ := (((Blk.nil (by repeat' first | with_reducible (first | exact hbw | exact bF _ _ | refine bA ?_ ?_ _ | refine bS ?_ ?_ _ | refine bD ?_ | refine z08 ?_ ?_ _) | ((try dsimp only); omega) | (simp; done) | (simp; omega))).cons (put3 bL)).cons (off3 (hC.2 _ (mcO _ mcS)) n2)).cons (off3 (hC.2 _ mcS) n1)
 clear l0 l1 l2 lf0 lf1 lf2 llt p0 p1 p2 p3 p4 p5 ltS yW ylt i0 i1 i2 hC hbw bL hB3
 refine z0n (C := Blk w [(w.heap.size, .cells #[vI vK c, vI vK d, vI vK s, .bool r, vI vK o, vI vK n] 59 (0, 0)), (B, .cells (z06 p y) 76 (0, 0)), (L, .cells #[vI vK mk, vI vK ml, vI vK mh] 72 (0, 0))]) (n0 := w.heap.size) 7 [] [] (by kernel_rfl) (by kernel_rfl) (fun d _ _ _ _ h => by cases d <;> exact h) (Blk.stable _ _) (Blk.room0 _ _) hK3.drew trivial ?_
 simp only [List.take_succ_cons, List.take_zero, List.drop_succ_cons, List.drop_zero, List.length_nil, Nat.reduceAdd]
 repeat (first
  | (refine z0k (by rfl) ?_; simp only [Act.put, siA, scZ, scS])
  | (refine z0b (by rfl) (v := ?_) ?_ ?_; rotate_left; (intro w2 hC; obtain ⟨p0, p1, p2, p3, p4, p5, ltS⟩ := row6 (hC.2 _ mcS); have yW : z05 _ B _ _ := (hC.2 _ (mcO _ mcS)); have ylt := yW.lt; obtain ⟨i0, i1, i2⟩ := yW.reg hd; obtain ⟨l0, l1, l2, lf0, lf1, lf2, llt⟩ := row3 (hC.2 _ (mcO _ (mcO _ mcS))); go_simp; try with_reducible rfl); simp only [Act.put, siA, scZ, scS]))
 refine z0t ?_
 intro w4 hC hB4
 obtain ⟨p0, p1, p2, p3, p4, p5, ltS⟩ := row6 (hC.2 _ mcS); have yW : z05 _ B _ _ := (hC.2 _ (mcO _ mcS)); have ylt := yW.lt; obtain ⟨i0, i1, i2⟩ := yW.reg hd; obtain ⟨l0, l1, l2, lf0, lf1, lf2, llt⟩ := row3 (hC.2 _ (mcO _ (mcO _ mcS)))
 have if0 := yW.frozen (1 + d * 3); have if1 := yW.frozen (1 + d * 3 + 1); have if2 := yW.frozen (1 + d * 3 + 2)
 have HK := z1q hC.1 B
 go_wp2_with fail
 go_ret
 exact ⟨by have := eq_of_beq hE; subst this; rfl, (by repeat' first | with_reducible (first | exact HK | refine z3g ?_ | refine kept_set ?_ _ _ | refine z40 ?_ _ _ ?_ | refine z2w ?_ _) | ((try dsimp only); omega) | (simp; omega)), yW.reg3 hd mk ml mh⟩
theorem zDs {B d s : Nat} {c o n p : Int} {r : Bool} {y : Way} (hd : d < 11) (hs : s < 11) (hy : y.Ok) (hn : In64 n) {w : World} (hW : z05 w B p y) :
  Calls Tryz.prog 47 #[.pointer (some ⟨B, 0, none⟩), .agg #[vI vK c, vI vK d, vI vK s, .bool r, vI vK o, vI vK n]] w fun e w' => e = .returned (vI vK (y.change c d s r n).1) ∧ Kept B w w' ∧ z05 w' B p (y.change c d s r n).2 := by
 have HM := fun W : World => zH0 c (y.reg d) (y.second s r n) (hy.reg d hd) (z2u hy hs hn) W
 unfold Way.change
 rcases e : z2e c (y.reg d) (y.second s r n) with ⟨⟨mk, ml, mh⟩, E⟩
 rw [e] at HM
 by_cases h : E = 0
 ·rw [if_pos h]
  exact zDr B d s c o n p r y hd hs mk ml mh E HM (by simpa using h) w hW
 ·rw [if_neg h]
  exact (zHa B d s c o n p r y hd hs mk ml mh E HM (by simpa using h) w hW).mono fun e w' ⟨h1, h2⟩ => ⟨h1, z1q h2 B, hW.later h2⟩
def z0z (f : Nat → Int × Int) : Nat → Int × Int
 | 0 => (0, 0)
 | k + 1 => if k = 0 then f 0 else (min (z0z f k).1 (f k).1, max (z0z f k).2 (f k).2)
theorem z5s (f : Nat → Int × Int) : z0z f 1 = f 0 := if_pos rfl
theorem z50 (f : Nat → Int × Int) {k : Nat} (h : k ≠ 0) : z0z f (k + 1) = (min (z0z f k).1 (f k).1, max (z0z f k).2 (f k).2) := if_neg h
theorem z5r (p : Option Addr) (cap : Nat) (w : World) : Calls Tryz.prog 14 #[.slice p 0 cap] w fun e w' => e = .returned (.agg #[vI vK 0, vI vK 0]) ∧ Below w.heap.size w w' := by
 go_enter Tryz.func14, Tryz.ntmps14
 go_wp2_with fail
 refine wp_loop_rounds 1 ?_
 rw [rounds_succ]
 go_wp2_with fail
 exact bodyPost_ret (v := .agg #[vI vK 0, vI vK 0]) (by simp [results, Tryz.results14, go_sem]) rfl ⟨rfl, (by repeat' first | with_reducible (first | exact bF _ _ | refine bA ?_ ?_ _ | refine bS ?_ ?_ _ | refine bD ?_ | refine z08 ?_ ?_ _) | ((try dsimp only); omega) | (simp; done) | (simp; omega))⟩
theorem z8u (g n cap : Nat) (f : Nat → Int × Int) (h1 : 1 ≤ n) (h2 : n ≤ 1000000) (w : World) (hg : g < w.heap.size) (hc : ∀ i, i < n → w.cell? ⟨g, i * 2, none⟩ = some (vI vK (f i).1) ∧ w.cell? ⟨g, i * 2 + 1, none⟩ = some (vI vK (f i).2)) :
  Calls Tryz.prog 14 #[.slice (some ⟨g, 0, none⟩) n cap] w fun e w' => e = .returned (.agg #[vI vK (z0z f n).1, vI vK (z0z f n).2]) ∧ Below w.heap.size w w' := by
 have HC : Hid (∀ i, i < n → w.cell? ⟨g, i * 2, none⟩ = some (vI vK (f i).1) ∧ w.cell? ⟨g, i * 2 + 1, none⟩ = some (vI vK (f i).2)) := hc
 have hK0 : Blk w [(w.heap.size, .cells #[vI vK 0, vI vK 0] 30 (0, 0)), (w.heap.size + 1, .cells #[vI vK (z0z f 0).1, vI vK (z0z f 0).2] 30 (0, 0))] _ := ((Blk.nil (((bF _ _).alloc (Nat.le_refl _) _).alloc (by simp) _)).cons (heap_alloc2_new w (.cells #[vI vK 0, vI vK 0] 30) (.cells #[vI vK 0, vI vK 0] 30))).cons (by rw [Below.heap_alloc _ _ _ (by simp)]; exact heap_alloc_new _ _)
 have HK0 : Hid (Blk w [(w.heap.size, .cells #[vI vK 0, vI vK 0] 30 (0, 0)), (w.heap.size + 1, .cells #[vI vK (z0z f 0).1, vI vK (z0z f 0).2] 30 (0, 0))] _) := hK0
 clear hc hK0
 go_enter Tryz.func14, Tryz.ntmps14
 go_wp2_with fail
 go_loopw [8] (fun i wr => ∃ k : Nat, i = vI vK k ∧ k ≤ n ∧ Hid (Blk w [(w.heap.size, .cells #[vI vK 0, vI vK 0] 30 (0, 0)), (w.heap.size + 1, .cells #[vI vK (z0z f k).1, vI vK (z0z f k).2] 30 (0, 0))] wr)) (fun i _ => n - (intOf i).toNat)
 case atStart => exact ⟨0, rfl, by omega, HK0.out⟩
 case round =>
  obtain ⟨k, rfl, hk, H⟩ := hrel
  have hK := H.out
  clear HK0
  have hk0 : (0 : Int) ≤ (k : Int) := by omega
  by_cases hlt : k < n
  ·have hlt' : (k : Int) < (n : Int) := by omega
   have c0 := (hK.1.cell (p := ⟨g, k * 2, none⟩) hg).trans (HC.out k hlt).1
   have c1 := (hK.1.cell (p := ⟨g, k * 2 + 1, none⟩) hg).trans (HC.out k hlt).2
   have hg2 := Nat.lt_of_lt_of_le hg hK.1.size
   obtain ⟨r0, r1, rf0, rf1, rlt⟩ := row2 (hK.2 _ mcS); obtain ⟨a0, a1, af0, af1, alt⟩ := row2 (hK.2 _ (mcO _ mcS))
   by_cases hz : k = 0
   ·subst hz
    simp only [Nat.zero_mul, Nat.zero_add] at c0 c1
    go_wp2_with (first
     | (go_at_call 27; go_must (refine (z3a _ _ _ _ _).mono ?_; rintro e w2 ⟨rfl, hb2⟩; have hK2 := Blk.later (Blk.later (((Blk.nil ((hK.1.setCell (by show _ ≤ w.heap.size + 1; omega) _).setCell (by show _ ≤ w.heap.size + 1; omega) _)).cons (put2 (hK.2 _ (mcO _ mcS)))).cons (off2 (hK.2 _ mcS) (by omega))) ((bF _ _).alloc (Nat.le_refl _) _)) hb2; clear r0 r1 rf0 rf1 rlt a0 a1 af0 af1 alt; obtain ⟨r0, r1, rf0, rf1, rlt⟩ := row2 (hK2.2 _ mcS); obtain ⟨a0, a1, af0, af1, alt⟩ := row2 (hK2.2 _ (mcO _ mcS))))
     | fail)
    go_roundw
    case rel => exact ⟨1, by go_num, by omega, by rw [z5s]; exact ((Blk.nil ((hK2.1.setCell (by show _ ≤ w.heap.size + 1; omega) _).setCell (by show _ ≤ w.heap.size + 1; omega) _)).cons (put2 (hK2.2 _ (mcO _ mcS)))).cons (off2 (hK2.2 _ mcS) (by omega))⟩
    case measure => simp [intOf]; omega
   ·have hz' : ((k : Int) == 0) = false := by simpa using hz
    go_wp2_with (first
     | (go_at_call 27; go_must (refine (z3a _ _ _ _ _).mono ?_; rintro e w2 ⟨rfl, hb2⟩; have hK2 := Blk.later (hK.later ((bF _ _).alloc (Nat.le_refl _) _)) hb2; clear r0 r1 rf0 rf1 rlt a0 a1 af0 af1 alt; obtain ⟨r0, r1, rf0, rf1, rlt⟩ := row2 (hK2.2 _ mcS); obtain ⟨a0, a1, af0, af1, alt⟩ := row2 (hK2.2 _ (mcO _ mcS))))
     | fail)
    go_roundw
    case rel => exact ⟨k + 1, by go_num, by omega, by rw [z50 f hz]; exact ((Blk.nil ((hK2.1.setCell (by show _ ≤ w.heap.size + 1; omega) _).setCell (by show _ ≤ w.heap.size + 1; omega) _)).cons (put2 (hK2.2 _ (mcO _ mcS)))).cons (off2 (hK2.2 _ mcS) (by omega))⟩
    case measure => simp [intOf]; omega
  ·obtain rfl : k = n := by omega
   obtain ⟨r0, r1, rf0, rf1, rlt⟩ := row2 (hK.2 _ mcS); obtain ⟨a0, a1, af0, af1, alt⟩ := row2 (hK.2 _ (mcO _ mcS))
   have hbw := hK.1
   go_wp2_with fail
   exact bodyPost_ret (v := .agg #[vI vK (z0z f k).1, vI vK (z0z f k).2]) (by simp [results, Tryz.results14, go_sem, *]) rfl ⟨rfl, (by repeat' first | with_reducible (first | exact hbw | exact bF _ _ | refine bA ?_ ?_ _ | refine bS ?_ ?_ _ | refine bD ?_ | refine z08 ?_ ?_ _) | ((try dsimp only); omega) | (simp; done) | (simp; omega))⟩
end Go.Proofs.YteenhdoaminkeaaGreatDoor
