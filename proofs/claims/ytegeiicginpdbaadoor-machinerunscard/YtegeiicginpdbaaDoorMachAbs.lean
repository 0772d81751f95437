/-
  A machine on plain numbers: what a step makes of registers, slots, words, cells and what was given out, and what comes of a list of steps; no program is named here. No conditions.
-/
import Derived.Test.YtegeiicginpdbaaDoorMach
import Derived.Test.YtegeiicginpdbaaDoorBoundFacts
namespace Go.Proofs.YtegeiicginpdbaaDoor
open Go.RowKit
def askF (c : Int) (a b : Val) (r : Bool) (o n : Int) : Int × Int :=
  if a.k = 0 ∨ b.k = 0 then (0, 8)
  else if a.k = 1 ∧ b.k = 1 then (if isV c a.n b.n then (o, 0) else (0, 0))
  else if (c ≠ 15 ∧ c ≠ 16) ∨ r = true ∨ n ≠ 0 then (0, 1)
  else if c = 16 then (o, 0) else (0, 0)
section
variable {c ak an ac bk bn bc o n : Int} {r : Bool}
theorem askF_a (h : ak = 0) : askF c ⟨ak, an, ac⟩ ⟨bk, bn, bc⟩ r o n = (0, 8) := if_pos (Or.inl h)
theorem askF_b (h : bk = 0) : askF c ⟨ak, an, ac⟩ ⟨bk, bn, bc⟩ r o n = (0, 8) := if_pos (Or.inr h)
theorem askF_so (ha : ak = 1) (hb : bk = 1) (h : isV c an bn = true) : askF c ⟨ak, an, ac⟩ ⟨bk, bn, bc⟩ r o n = (o, 0) := by
  unfold askF
  rw [if_neg (by show ¬ (ak = 0 ∨ bk = 0); omega), if_pos ⟨ha, hb⟩]
  exact if_pos h
theorem askF_not (ha : ak = 1) (hb : bk = 1) (h : isV c an bn = false) : askF c ⟨ak, an, ac⟩ ⟨bk, bn, bc⟩ r o n = (0, 0) := by
  unfold askF
  rw [if_neg (by show ¬ (ak = 0 ∨ bk = 0); omega), if_pos ⟨ha, hb⟩]
  exact if_neg (by rw [h]; decide)
theorem askF_arg (ha : ¬ ak = 0) (hb : ¬ bk = 0) (h : ¬ (ak = 1 ∧ bk = 1)) (h2 : (c ≠ 15 ∧ c ≠ 16) ∨ r = true ∨ n ≠ 0) : askF c ⟨ak, an, ac⟩ ⟨bk, bn, bc⟩ r o n = (0, 1) := by
  unfold askF
  rw [if_neg (by show ¬ (ak = 0 ∨ bk = 0); omega), if_neg h, if_pos h2]
theorem askF_ne (ha : ¬ ak = 0) (hb : ¬ bk = 0) (h : ¬ (ak = 1 ∧ bk = 1)) (hc : c = 16) (hn : n = 0) : askF c ⟨ak, an, ac⟩ ⟨bk, bn, bc⟩ false o n = (o, 0) := by
  unfold askF
  rw [if_neg (by show ¬ (ak = 0 ∨ bk = 0); omega), if_neg h, if_neg (by simp [hc, hn]), if_pos hc]
theorem askF_eq (ha : ¬ ak = 0) (hb : ¬ bk = 0) (h : ¬ (ak = 1 ∧ bk = 1)) (hc : c = 15) (hn : n = 0) : askF c ⟨ak, an, ac⟩ ⟨bk, bn, bc⟩ false o n = (0, 0) := by
  unfold askF
  rw [if_neg (by show ¬ (ak = 0 ∨ bk = 0); omega), if_neg h, if_neg (by simp [hc, hn]), if_neg (by omega)]
end

/-- What a program that runs has. -/
structure Abs where
  reg : Nat → Val
  slot : Nat → Val
  word : Nat → Int
  cel : Nat → Int
  time : Int
  out : List Int
def none0 : Val := ⟨0, 0, 0⟩
def Abs.putReg (a : Abs) (d : Nat) (x : Val) : Abs := { a with reg := fun i => if i = d then x else a.reg i }
def Abs.putSlot (a : Abs) (t : Nat) (x : Val) : Abs := { a with slot := fun i => if i = t then x else a.slot i }
def Abs.putCel (a : Abs) (t : Nat) (n : Int) : Abs := { a with cel := fun i => if i = t then n else a.cel i }
def Abs.second (a : Abs) (s : Nat) (r : Bool) (n : Int) : Val := if r then a.reg s else numF n
def Abs.lose (a : Abs) : Abs := { a with reg := fun i => if 1 ≤ i ∧ i ≤ 5 then none0 else a.reg i }
def Abs.give (a : Abs) (n : Int) : Abs := { a with out := if a.out.length < 50 then a.out ++ [n] else a.out }
def Abs.at (a : Abs) (p : Val) (t : Nat) : Val := if p.k = 2 then numF (a.word t) else if p.k = 3 then a.slot t else numF (a.cel (p.c.toNat * 4 + t))
def loadF (a : Abs) (d : Nat) (p : Val) (o : Int) : Int × Abs :=
  if (reachF p o).2 ≠ 0 then ((reachF p o).2, a)
  else if (a.at p (reachF p o).1.toNat).k = 0 then (8, a)
  else (0, a.putReg d (a.at p (reachF p o).1.toNat))
def storeF (a : Abs) (p v : Val) (o : Int) : Int × Abs :=
  if (reachF p o).2 ≠ 0 then ((reachF p o).2, a)
  else if p.k = 2 then (6, a)
  else if v.k = 0 then (8, a)
  else if p.k = 3 then (0, a.putSlot (reachF p o).1.toNat v)
  else if v.k ≠ 1 then (1, a)
  else (0, a.putCel (p.c.toNat * 4 + (reachF p o).1.toNat) v.n)
def callF (a : Abs) (what : Int) : Int × Abs :=
  if what ≠ 2 ∧ wantF (a.reg 1) ≠ 0 then (wantF (a.reg 1), a)
  else if what = 1 then (0, a.lose.putReg 0 (foundF (a.reg 1).n))
  else if what = 2 then (0, a.lose.putReg 0 (numF a.time))
  else (0, (a.lose.give (a.reg 1).n).putReg 0 (numF 0))
/-- What a step that is no Exit does: how far behind the next one it leads, what is wrong, what there is then. -/
def doF (c d s : Int) (r : Bool) (o n : Int) (a : Abs) : Int × Int × Abs :=
  if 15 ≤ c ∧ c ≤ 24 then ((askF c (a.reg d.toNat) (a.second s.toNat r n) r o n).1, (askF c (a.reg d.toNat) (a.second s.toNat r n) r o n).2, a)
  else if c = 14 then (o, 0, a)
  else if c = 25 then (0, loadF a d.toNat (a.reg s.toNat) o)
  else if c = 26 then (0, storeF a (a.reg d.toNat) (a.second s.toNat r n) o)
  else if c = 27 then (0, callF a n)
  else (0, (makesF c (a.reg d.toNat) (a.second s.toNat r n)).2, a.putReg d.toNat (makesF c (a.reg d.toNat) (a.second s.toNat r n)).1)
/-- What comes of a program: what is wrong, and where; or with what it ended, behind how many steps, and what there was then. -/
abbrev End : Type := (Int × Nat) ⊕ (Int × Nat × Abs)
abbrev End.bad (e : Int) (q : Nat) : End := Sum.inl (e, q)
abbrev End.fine (n : Int) (k : Nat) (a : Abs) : End := Sum.inr (n, k, a)
/-- From step pc on, k steps having been done; f is at least as many as there are left. -/
def runN (C D S : Nat → Int) (R : Nat → Bool) (O N : Nat → Int) (len : Nat) : Nat → Nat → Nat → Abs → End
  | 0, _, _, _ => End.bad 0 0
  | f + 1, pc, k, a =>
    if pc < len then
      if C pc = 28 then (if wantF (a.reg 0) = 0 then End.fine (a.reg 0).n (k + 1) a else End.bad (wantF (a.reg 0)) pc)
      else if (doF (C pc) (D pc) (S pc) (R pc) (O pc) (N pc) a).2.1 ≠ 0 then End.bad (doF (C pc) (D pc) (S pc) (R pc) (O pc) (N pc) a).2.1 pc
      else runN C D S R O N len f (pc + 1 + (doF (C pc) (D pc) (S pc) (R pc) (O pc) (N pc) a).1.toNat) (k + 1) (doF (C pc) (D pc) (S pc) (R pc) (O pc) (N pc) a).2.2
    else End.bad 0 0
/-- From step pc on, k steps having been done. -/
def runF (C D S : Nat → Int) (R : Nat → Bool) (O N : Nat → Int) (len pc k : Nat) (a : Abs) : End := runN C D S R O N len (len - pc) pc k a
theorem runN_more (C D S : Nat → Int) (R : Nat → Bool) (O N : Nat → Int) (len f pc k : Nat) (a : Abs) : runN C D S R O N len (f + 1) pc k a = if pc < len then
      if C pc = 28 then (if wantF (a.reg 0) = 0 then End.fine (a.reg 0).n (k + 1) a else End.bad (wantF (a.reg 0)) pc)
      else if (doF (C pc) (D pc) (S pc) (R pc) (O pc) (N pc) a).2.1 ≠ 0 then End.bad (doF (C pc) (D pc) (S pc) (R pc) (O pc) (N pc) a).2.1 pc
      else runN C D S R O N len f (pc + 1 + (doF (C pc) (D pc) (S pc) (R pc) (O pc) (N pc) a).1.toNat) (k + 1) (doF (C pc) (D pc) (S pc) (R pc) (O pc) (N pc) a).2.2
    else End.bad 0 0 := rfl
theorem runN_fuel (C D S : Nat → Int) (R : Nat → Bool) (O N : Nat → Int) (len : Nat) : ∀ (f g pc k : Nat) (a : Abs), len ≤ pc + f → len ≤ pc + g → runN C D S R O N len f pc k a = runN C D S R O N len g pc k a := by
  intro f
  induction f with
  | zero =>
    intro g pc k a h1 _
    cases g with
    | zero => rfl
    | succ g => rw [runN_more, if_neg (by omega)]; rfl
  | succ f ih =>
    intro g pc k a h1 h2
    cases g with
    | zero => rw [runN_more, if_neg (by omega)]; rfl
    | succ g =>
      rw [runN_more, runN_more, ih g _ _ _ (by omega) (by omega)]
theorem runF_eq (C D S : Nat → Int) (R : Nat → Bool) (O N : Nat → Int) (len pc k : Nat) (a : Abs) : runF C D S R O N len pc k a = if pc < len then
      if C pc = 28 then (if wantF (a.reg 0) = 0 then End.fine (a.reg 0).n (k + 1) a else End.bad (wantF (a.reg 0)) pc)
      else if (doF (C pc) (D pc) (S pc) (R pc) (O pc) (N pc) a).2.1 ≠ 0 then End.bad (doF (C pc) (D pc) (S pc) (R pc) (O pc) (N pc) a).2.1 pc
      else runF C D S R O N len (pc + 1 + (doF (C pc) (D pc) (S pc) (R pc) (O pc) (N pc) a).1.toNat) (k + 1) (doF (C pc) (D pc) (S pc) (R pc) (O pc) (N pc) a).2.2
    else End.bad 0 0 := by
  by_cases h : pc < len
  · obtain ⟨f, hf⟩ : ∃ f, len - pc = f + 1 := ⟨len - pc - 1, by omega⟩
    show runN C D S R O N len (len - pc) pc k a = _
    rw [hf, runN_more, runN_fuel C D S R O N len f (len - (pc + 1 + (doF (C pc) (D pc) (S pc) (R pc) (O pc) (N pc) a).1.toNat)) _ _ _ (by omega) (by omega)]
    rfl
  · show runN C D S R O N len (len - pc) pc k a = _
    rw [if_neg h, show len - pc = 0 by omega]
    rfl
section
variable {C D S O N : Nat → Int} {R : Nat → Bool} {len pc k : Nat} {a : Abs}
theorem runF_exit (h : pc < len) (hc : C pc = 28) (hw : wantF (a.reg 0) = 0) : runF C D S R O N len pc k a = .fine (a.reg 0).n (k + 1) a := by
  rw [runF_eq, if_pos h, if_pos hc, if_pos hw]
theorem runF_exit_bad (h : pc < len) (hc : C pc = 28) (hw : wantF (a.reg 0) ≠ 0) : runF C D S R O N len pc k a = .bad (wantF (a.reg 0)) pc := by
  rw [runF_eq, if_pos h, if_pos hc, if_neg hw]
theorem runF_bad (h : pc < len) (hc : C pc ≠ 28) (hw : (doF (C pc) (D pc) (S pc) (R pc) (O pc) (N pc) a).2.1 ≠ 0) : runF C D S R O N len pc k a = .bad (doF (C pc) (D pc) (S pc) (R pc) (O pc) (N pc) a).2.1 pc := by
  rw [runF_eq, if_pos h, if_neg hc, if_pos hw]
theorem runF_go (h : pc < len) (hc : C pc ≠ 28) (hw : (doF (C pc) (D pc) (S pc) (R pc) (O pc) (N pc) a).2.1 = 0) :
    runF C D S R O N len pc k a = runF C D S R O N len (pc + 1 + (doF (C pc) (D pc) (S pc) (R pc) (O pc) (N pc) a).1.toNat) (k + 1) (doF (C pc) (D pc) (S pc) (R pc) (O pc) (N pc) a).2.2 := by
  rw [runF_eq, if_pos h, if_neg hc, if_neg (by rw [hw]; decide)]
end
/-- A number of 64 bits. -/
def In64 (n : Int) : Prop := -9223372036854775808 ≤ n ∧ n ≤ 9223372036854775807
/-- A value as it can be. -/
structure Val.Ok (x : Val) : Prop where
  k0 : 0 ≤ x.k
  k4 : x.k ≤ 4
  n : In64 x.n
  c0 : 0 ≤ x.c
  c3 : x.c ≤ 3
structure Abs.Ok (a : Abs) : Prop where
  reg : ∀ i, i < 11 → (a.reg i).Ok
  slot : ∀ i, i < 16 → (a.slot i).Ok
  word : ∀ i, i < 8 → In64 (a.word i)
  cel : ∀ i, i < 16 → In64 (a.cel i)
  time : In64 a.time
  out : ∀ x, x ∈ a.out → In64 x
  room : a.out.length ≤ 50
theorem none0_ok : none0.Ok := ⟨by decide, by decide, ⟨by decide, by decide⟩, by decide, by decide⟩
theorem num_ok {n : Int} (h : In64 n) : (numF n).Ok := ⟨show (0 : Int) ≤ 1 by decide, show (1 : Int) ≤ 4 by decide, h, show (0 : Int) ≤ 0 by decide, show (0 : Int) ≤ 3 by decide⟩
theorem Abs.Ok.putReg {a : Abs} (h : a.Ok) (d : Nat) {x : Val} (hx : x.Ok) : (a.putReg d x).Ok :=
  ⟨fun i hi => by show (if i = d then x else a.reg i).Ok; split; exact hx; exact h.reg i hi, h.slot, h.word, h.cel, h.time, h.out, h.room⟩
theorem Abs.Ok.putSlot {a : Abs} (h : a.Ok) (d : Nat) {x : Val} (hx : x.Ok) : (a.putSlot d x).Ok :=
  ⟨h.reg, fun i hi => by show (if i = d then x else a.slot i).Ok; split; exact hx; exact h.slot i hi, h.word, h.cel, h.time, h.out, h.room⟩
theorem Abs.Ok.putCel {a : Abs} (h : a.Ok) (d : Nat) {n : Int} (hx : In64 n) : (a.putCel d n).Ok :=
  ⟨h.reg, h.slot, h.word, fun i hi => by show In64 (if i = d then n else a.cel i); split; exact hx; exact h.cel i hi, h.time, h.out, h.room⟩
theorem Abs.Ok.lose {a : Abs} (h : a.Ok) : a.lose.Ok :=
  ⟨fun i hi => by show (if 1 ≤ i ∧ i ≤ 5 then none0 else a.reg i).Ok; split; exact none0_ok; exact h.reg i hi, h.slot, h.word, h.cel, h.time, h.out, h.room⟩
theorem Abs.Ok.give {a : Abs} (h : a.Ok) {n : Int} (hn : In64 n) : (a.give n).Ok := by
  refine ⟨h.reg, h.slot, h.word, h.cel, h.time, ?_, ?_⟩
  · intro x hx
    change x ∈ (if a.out.length < 50 then a.out ++ [n] else a.out) at hx
    split at hx
    · rcases List.mem_append.1 hx with hx | hx
      · exact h.out x hx
      · rw [List.mem_singleton.1 hx]; exact hn
    · exact h.out x hx
  · show (if a.out.length < 50 then a.out ++ [n] else a.out).length ≤ 50
    split
    · rw [List.length_append]; show a.out.length + 1 ≤ 50; omega
    · exact h.room
theorem Abs.Ok.second {a : Abs} (h : a.Ok) {s : Nat} (hs : s < 11) (r : Bool) {n : Int} (hn : In64 n) : (a.second s r n).Ok := by
  unfold Abs.second; split; exact h.reg s hs; exact num_ok hn
/-- A place that is reached is one. -/
theorem reach_in {p : Val} {o : Int} (h : (reachF p o).2 = 0) : 2 ≤ p.k ∨ p.k < 0 := by
  unfold reachF at h
  by_cases h0 : p.k = 0
  · rw [if_pos h0] at h; exact absurd h (by decide)
  by_cases h1 : p.k = 1
  · rw [if_neg h0, if_pos h1] at h; exact absurd h (by decide)
  omega
theorem reach_bd {p : Val} {o : Int} (h : (reachF p o).2 = 0) : 0 ≤ (reachF p o).1 ∧ (reachF p o).1 < reachMax p := by
  unfold reachF at h ⊢
  by_cases h0 : p.k = 0
  · rw [if_pos h0] at h; exact absurd h (by decide)
  by_cases h1 : p.k = 1
  · rw [if_neg h0, if_pos h1] at h; exact absurd h (by decide)
  rw [if_neg h0, if_neg h1] at h ⊢
  by_cases h2 : reachTo p o < 0 ∨ reachMax p ≤ reachTo p o
  · rw [if_pos h2] at h; exact absurd h (by decide)
  · rw [if_neg h2]; show 0 ≤ reachTo p o ∧ reachTo p o < reachMax p; omega
theorem Abs.Ok.at {a : Abs} (h : a.Ok) {p : Val} (hp : p.Ok) {o : Int} (hr : (reachF p o).2 = 0) : (a.at p (reachF p o).1.toNat).Ok := by
  have hb := reach_bd hr
  unfold reachMax at hb
  unfold Abs.at
  by_cases h2 : p.k = 2
  · rw [if_pos h2] at hb ⊢; exact num_ok (h.word _ (by omega))
  rw [if_neg h2] at hb ⊢
  by_cases h3 : p.k = 3
  · rw [if_pos h3] at hb ⊢; exact h.slot _ (by omega)
  · rw [if_neg h3] at hb ⊢; have := hp.c0; have := hp.c3; exact num_ok (h.cel _ (by omega))
theorem loadF_ok {a : Abs} (h : a.Ok) (d : Nat) {p : Val} (hp : p.Ok) (o : Int) : (loadF a d p o).2.Ok := by
  unfold loadF
  by_cases hr : (reachF p o).2 = 0
  · rw [if_neg (by simp [hr])]
    split
    · exact h
    · exact h.putReg d (h.at hp hr)
  · rw [if_pos hr]; exact h
theorem storeF_ok {a : Abs} (h : a.Ok) (p : Val) {v : Val} (hv : v.Ok) (o : Int) : (storeF a p v o).2.Ok := by
  unfold storeF
  split
  · exact h
  split
  · exact h
  split
  · exact h
  split
  · exact h.putSlot _ hv
  split
  · exact h
  · exact h.putCel _ hv.n
theorem found_ok {n : Int} : (foundF n).Ok := by
  unfold foundF
  split
  · exact num_ok ⟨by decide, by decide⟩
  · exact ⟨show (0 : Int) ≤ 4 by decide, show (4 : Int) ≤ 4 by decide, (⟨by decide, by decide⟩ : In64 0), by show 0 ≤ n; omega, by show n ≤ 3; omega⟩
theorem callF_ok {a : Abs} (h : a.Ok) (what : Int) : (callF a what).2.Ok := by
  unfold callF
  split
  · exact h
  split
  · exact h.lose.putReg 0 found_ok
  split
  · exact h.lose.putReg 0 (num_ok h.time)
  · exact (h.lose.give (h.reg 1 (by decide)).n).putReg 0 (num_ok ⟨by decide, by decide⟩)
theorem makesF_ok {c : Int} (hc : 1 ≤ c ∧ c ≤ 13) {a b : Val} (ha : a.Ok) (hb : b.Ok) : (makesF c a b).1.Ok := by
  have hd := doesV_bd hc ha.n.1 ha.n.2 hb.n.1 hb.n.2
  unfold makesF
  split
  · exact none0_ok
  split
  · exact hb
  split
  · exact ⟨ha.k0, ha.k4, hd, ha.c0, ha.c3⟩
  split
  · exact ⟨hb.k0, hb.k4, hd, hb.c0, hb.c3⟩
  · exact none0_ok
/-- What a step leaves is as it can be. -/
theorem doF_ok {c d s : Int} {r : Bool} {o n : Int} {a : Abs} (h : a.Ok) (c1 : 1 ≤ c) (c2 : c ≤ 28) (hc : c ≠ 28) (d1 : 0 ≤ d) (d2 : d ≤ 10) (s1 : 0 ≤ s) (s2 : s ≤ 10) (hn : In64 n) : (doF c d s r o n a).2.2.Ok := by
  have hd : d.toNat < 11 := by omega
  have hs : s.toNat < 11 := by omega
  unfold doF
  by_cases h1 : 15 ≤ c ∧ c ≤ 24
  · rw [if_pos h1]; exact h
  rw [if_neg h1]
  by_cases h2 : c = 14
  · rw [if_pos h2]; exact h
  rw [if_neg h2]
  by_cases h3 : c = 25
  · rw [if_pos h3]; exact loadF_ok h _ (h.reg _ hs) o
  rw [if_neg h3]
  by_cases h4 : c = 26
  · rw [if_pos h4]; exact storeF_ok h _ (h.second hs r hn) o
  rw [if_neg h4]
  by_cases h5 : c = 27
  · rw [if_pos h5]; exact callF_ok h n
  rw [if_neg h5]
  exact h.putReg _ (makesF_ok (by omega) (h.reg _ hd) (h.second hs r hn))
end Go.Proofs.YtegeiicginpdbaaDoor
