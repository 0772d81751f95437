/-
  A machine on plain numbers: what a step makes of registers, slots, words, cells and what was given out, and what comes of a list of steps; no program is named here. No conditions. A program that runs, as it lies in memory, over what else is made and written: small laws, each for one step of a world. No conditions. A step that asks, of a program that runs: how far it leads, or what is wrong; nothing that was there is changed. Conditions: numbers are of 64 bits. A Load, of a program that runs: what is in a register then, or what is wrong. Conditions: numbers are of 64 bits.
-/
import Derived.Test.YtednmkhdehlojaaGreatDoorJs2
open Go.Value renaming int → vI
open Go.IntKind renaming i64 → vK
open Go.RowKit.Below renaming alloc → bA, setCell → bS, drew → bD, refl → bF
set_option maxHeartbeats 4000000
set_option maxRecDepth 1000000
namespace Go.Proofs.YtednmkhdehlojaaGreatDoor
open Go.RowKit
def askF (c : Int) (a b : Val) (r : Bool) (o n : Int) : Int × Int :=
  if a.k = 0 ∨ b.k = 0 then (0, 8)
  else if a.k = 1 ∧ b.k = 1 then (if isV c a.n b.n then (o, 0) else (0, 0))
  else if (c ≠ 15 ∧ c ≠ 16) ∨ r = true ∨ n ≠ 0 then (0, 1)
  else if c = 16 then (o, 0) else (0, 0)
section
variable {c ak an ac bk bn bc o n : Int} {r : Bool}
theorem askF_a (h : ak = 0) : askF c ⟨ak, an, ac⟩ ⟨bk, bn, bc⟩ r o n = (0, 8) := if_pos (Or.inl h)
theorem askF_b (h : bk = 0) : askF c ⟨ak, an, ac⟩ ⟨bk, bn, bc⟩ r o n = (0, 8) := if_pos (Or.inr h)
theorem askF_so (ha : ak = 1) (hb : bk = 1) (h : isV c an bn = true) : askF c ⟨ak, an, ac⟩ ⟨bk, bn, bc⟩ r o n = (o, 0) := by
  unfold askF
  rw [if_neg (by show ¬ (ak = 0 ∨ bk = 0); omega), if_pos ⟨ha, hb⟩]
  exact if_pos h
theorem askF_not (ha : ak = 1) (hb : bk = 1) (h : isV c an bn = false) : askF c ⟨ak, an, ac⟩ ⟨bk, bn, bc⟩ r o n = (0, 0) := by
  unfold askF
  rw [if_neg (by show ¬ (ak = 0 ∨ bk = 0); omega), if_pos ⟨ha, hb⟩]
  exact if_neg (by rw [h]; decide)
theorem askF_arg (ha : ¬ ak = 0) (hb : ¬ bk = 0) (h : ¬ (ak = 1 ∧ bk = 1)) (h2 : (c ≠ 15 ∧ c ≠ 16) ∨ r = true ∨ n ≠ 0) : askF c ⟨ak, an, ac⟩ ⟨bk, bn, bc⟩ r o n = (0, 1) := by
  unfold askF
  rw [if_neg (by show ¬ (ak = 0 ∨ bk = 0); omega), if_neg h, if_pos h2]
theorem askF_ne (ha : ¬ ak = 0) (hb : ¬ bk = 0) (h : ¬ (ak = 1 ∧ bk = 1)) (hc : c = 16) (hn : n = 0) : askF c ⟨ak, an, ac⟩ ⟨bk, bn, bc⟩ false o n = (o, 0) := by
  unfold askF
  rw [if_neg (by show ¬ (ak = 0 ∨ bk = 0); omega), if_neg h, if_neg (by simp [hc, hn]), if_pos hc]
theorem askF_eq (ha : ¬ ak = 0) (hb : ¬ bk = 0) (h : ¬ (ak = 1 ∧ bk = 1)) (hc : c = 15) (hn : n = 0) : askF c ⟨ak, an, ac⟩ ⟨bk, bn, bc⟩ false o n = (0, 0) := by
  unfold askF
  rw [if_neg (by show ¬ (ak = 0 ∨ bk = 0); omega), if_neg h, if_neg (by simp [hc, hn]), if_neg (by omega)]
end

structure Abs where
  reg : Nat → Val
  slot : Nat → Val
  word : Nat → Int
  cel : Nat → Int
  time : Int
  out : List Int
def none0 : Val := ⟨0, 0, 0⟩
def Abs.putReg (a : Abs) (d : Nat) (x : Val) : Abs := { a with reg := fun i => if i = d then x else a.reg i }
def Abs.putSlot (a : Abs) (t : Nat) (x : Val) : Abs := { a with slot := fun i => if i = t then x else a.slot i }
def Abs.putCel (a : Abs) (t : Nat) (n : Int) : Abs := { a with cel := fun i => if i = t then n else a.cel i }
def Abs.second (a : Abs) (s : Nat) (r : Bool) (n : Int) : Val := if r then a.reg s else numF n
def Abs.lose (a : Abs) : Abs := { a with reg := fun i => if 1 ≤ i ∧ i ≤ 5 then none0 else a.reg i }
def Abs.give (a : Abs) (n : Int) : Abs := { a with out := if a.out.length < 50 then a.out ++ [n] else a.out }
def Abs.at (a : Abs) (p : Val) (t : Nat) : Val := if p.k = 2 then numF (a.word t) else if p.k = 3 then a.slot t else numF (a.cel (p.c.toNat * 4 + t))
def loadF (a : Abs) (d : Nat) (p : Val) (o : Int) : Int × Abs :=
  if (reachF p o).2 ≠ 0 then ((reachF p o).2, a)
  else if (a.at p (reachF p o).1.toNat).k = 0 then (8, a)
  else (0, a.putReg d (a.at p (reachF p o).1.toNat))
def storeF (a : Abs) (p v : Val) (o : Int) : Int × Abs :=
  if (reachF p o).2 ≠ 0 then ((reachF p o).2, a)
  else if p.k = 2 then (6, a)
  else if v.k = 0 then (8, a)
  else if p.k = 3 then (0, a.putSlot (reachF p o).1.toNat v)
  else if v.k ≠ 1 then (1, a)
  else (0, a.putCel (p.c.toNat * 4 + (reachF p o).1.toNat) v.n)
def callF (a : Abs) (what : Int) : Int × Abs :=
  if what ≠ 2 ∧ wantF (a.reg 1) ≠ 0 then (wantF (a.reg 1), a)
  else if what = 1 then (0, a.lose.putReg 0 (foundF (a.reg 1).n))
  else if what = 2 then (0, a.lose.putReg 0 (numF a.time))
  else (0, (a.lose.give (a.reg 1).n).putReg 0 (numF 0))
def doF (c d s : Int) (r : Bool) (o n : Int) (a : Abs) : Int × Int × Abs :=
  if 15 ≤ c ∧ c ≤ 24 then ((askF c (a.reg d.toNat) (a.second s.toNat r n) r o n).1, (askF c (a.reg d.toNat) (a.second s.toNat r n) r o n).2, a)
  else if c = 14 then (o, 0, a)
  else if c = 25 then (0, loadF a d.toNat (a.reg s.toNat) o)
  else if c = 26 then (0, storeF a (a.reg d.toNat) (a.second s.toNat r n) o)
  else if c = 27 then (0, callF a n)
  else (0, (makesF c (a.reg d.toNat) (a.second s.toNat r n)).2, a.putReg d.toNat (makesF c (a.reg d.toNat) (a.second s.toNat r n)).1)
abbrev End : Type := (Int × Nat) ⊕ (Int × Nat × Abs)
abbrev End.bad (e : Int) (q : Nat) : End := Sum.inl (e, q)
abbrev End.fine (n : Int) (k : Nat) (a : Abs) : End := Sum.inr (n, k, a)
def runN (C D S : Nat → Int) (R : Nat → Bool) (O N : Nat → Int) (len : Nat) : Nat → Nat → Nat → Abs → End
  | 0, _, _, _ => End.bad 0 0
  | f + 1, pc, k, a =>
    if pc < len then
      if C pc = 28 then (if wantF (a.reg 0) = 0 then End.fine (a.reg 0).n (k + 1) a else End.bad (wantF (a.reg 0)) pc)
      else if (doF (C pc) (D pc) (S pc) (R pc) (O pc) (N pc) a).2.1 ≠ 0 then End.bad (doF (C pc) (D pc) (S pc) (R pc) (O pc) (N pc) a).2.1 pc
      else runN C D S R O N len f (pc + 1 + (doF (C pc) (D pc) (S pc) (R pc) (O pc) (N pc) a).1.toNat) (k + 1) (doF (C pc) (D pc) (S pc) (R pc) (O pc) (N pc) a).2.2
    else End.bad 0 0
def runF (C D S : Nat → Int) (R : Nat → Bool) (O N : Nat → Int) (len pc k : Nat) (a : Abs) : End := runN C D S R O N len (len - pc) pc k a
theorem runN_more (C D S : Nat → Int) (R : Nat → Bool) (O N : Nat → Int) (len f pc k : Nat) (a : Abs) : runN C D S R O N len (f + 1) pc k a = if pc < len then
      if C pc = 28 then (if wantF (a.reg 0) = 0 then End.fine (a.reg 0).n (k + 1) a else End.bad (wantF (a.reg 0)) pc)
      else if (doF (C pc) (D pc) (S pc) (R pc) (O pc) (N pc) a).2.1 ≠ 0 then End.bad (doF (C pc) (D pc) (S pc) (R pc) (O pc) (N pc) a).2.1 pc
      else runN C D S R O N len f (pc + 1 + (doF (C pc) (D pc) (S pc) (R pc) (O pc) (N pc) a).1.toNat) (k + 1) (doF (C pc) (D pc) (S pc) (R pc) (O pc) (N pc) a).2.2
    else End.bad 0 0 := rfl
theorem runN_fuel (C D S : Nat → Int) (R : Nat → Bool) (O N : Nat → Int) (len : Nat) : ∀ (f g pc k : Nat) (a : Abs), len ≤ pc + f → len ≤ pc + g → runN C D S R O N len f pc k a = runN C D S R O N len g pc k a := by
  intro f
  induction f with
  | zero =>
    intro g pc k a h1 _
    cases g with
    | zero => rfl
    | succ g => rw [runN_more, if_neg (by omega)]; rfl
  | succ f ih =>
    intro g pc k a h1 h2
    cases g with
    | zero => rw [runN_more, if_neg (by omega)]; rfl
    | succ g =>
      rw [runN_more, runN_more, ih g _ _ _ (by omega) (by omega)]
theorem runF_eq (C D S : Nat → Int) (R : Nat → Bool) (O N : Nat → Int) (len pc k : Nat) (a : Abs) : runF C D S R O N len pc k a = if pc < len then
      if C pc = 28 then (if wantF (a.reg 0) = 0 then End.fine (a.reg 0).n (k + 1) a else End.bad (wantF (a.reg 0)) pc)
      else if (doF (C pc) (D pc) (S pc) (R pc) (O pc) (N pc) a).2.1 ≠ 0 then End.bad (doF (C pc) (D pc) (S pc) (R pc) (O pc) (N pc) a).2.1 pc
      else runF C D S R O N len (pc + 1 + (doF (C pc) (D pc) (S pc) (R pc) (O pc) (N pc) a).1.toNat) (k + 1) (doF (C pc) (D pc) (S pc) (R pc) (O pc) (N pc) a).2.2
    else End.bad 0 0 := by
  by_cases h : pc < len
  · obtain ⟨f, hf⟩ : ∃ f, len - pc = f + 1 := ⟨len - pc - 1, by omega⟩
    show runN C D S R O N len (len - pc) pc k a = _
    rw [hf, runN_more, runN_fuel C D S R O N len f (len - (pc + 1 + (doF (C pc) (D pc) (S pc) (R pc) (O pc) (N pc) a).1.toNat)) _ _ _ (by omega) (by omega)]
    rfl
  · show runN C D S R O N len (len - pc) pc k a = _
    rw [if_neg h, show len - pc = 0 by omega]
    rfl
section
variable {C D S O N : Nat → Int} {R : Nat → Bool} {len pc k : Nat} {a : Abs}
theorem runF_exit (h : pc < len) (hc : C pc = 28) (hw : wantF (a.reg 0) = 0) : runF C D S R O N len pc k a = .fine (a.reg 0).n (k + 1) a := by
  rw [runF_eq, if_pos h, if_pos hc, if_pos hw]
theorem runF_exit_bad (h : pc < len) (hc : C pc = 28) (hw : wantF (a.reg 0) ≠ 0) : runF C D S R O N len pc k a = .bad (wantF (a.reg 0)) pc := by
  rw [runF_eq, if_pos h, if_pos hc, if_neg hw]
theorem runF_bad (h : pc < len) (hc : C pc ≠ 28) (hw : (doF (C pc) (D pc) (S pc) (R pc) (O pc) (N pc) a).2.1 ≠ 0) : runF C D S R O N len pc k a = .bad (doF (C pc) (D pc) (S pc) (R pc) (O pc) (N pc) a).2.1 pc := by
  rw [runF_eq, if_pos h, if_neg hc, if_pos hw]
theorem runF_go (h : pc < len) (hc : C pc ≠ 28) (hw : (doF (C pc) (D pc) (S pc) (R pc) (O pc) (N pc) a).2.1 = 0) :
    runF C D S R O N len pc k a = runF C D S R O N len (pc + 1 + (doF (C pc) (D pc) (S pc) (R pc) (O pc) (N pc) a).1.toNat) (k + 1) (doF (C pc) (D pc) (S pc) (R pc) (O pc) (N pc) a).2.2 := by
  rw [runF_eq, if_pos h, if_neg hc, if_neg (by rw [hw]; decide)]
end
def In64 (n : Int) : Prop := -9223372036854775808 ≤ n ∧ n ≤ 9223372036854775807
structure Val.Ok (x : Val) : Prop where
  k0 : 0 ≤ x.k
  k4 : x.k ≤ 4
  n : In64 x.n
  c0 : 0 ≤ x.c
  c3 : x.c ≤ 3
structure Abs.Ok (a : Abs) : Prop where
  reg : ∀ i, i < 11 → (a.reg i).Ok
  slot : ∀ i, i < 16 → (a.slot i).Ok
  word : ∀ i, i < 8 → In64 (a.word i)
  cel : ∀ i, i < 16 → In64 (a.cel i)
  time : In64 a.time
  out : ∀ x, x ∈ a.out → In64 x
  room : a.out.length ≤ 50
theorem none0_ok : none0.Ok := ⟨by decide, by decide, ⟨by decide, by decide⟩, by decide, by decide⟩
theorem num_ok {n : Int} (h : In64 n) : (numF n).Ok := ⟨show (0 : Int) ≤ 1 by decide, show (1 : Int) ≤ 4 by decide, h, show (0 : Int) ≤ 0 by decide, show (0 : Int) ≤ 3 by decide⟩
theorem Abs.Ok.putReg {a : Abs} (h : a.Ok) (d : Nat) {x : Val} (hx : x.Ok) : (a.putReg d x).Ok :=
  ⟨fun i hi => by show (if i = d then x else a.reg i).Ok; split; exact hx; exact h.reg i hi, h.slot, h.word, h.cel, h.time, h.out, h.room⟩
theorem Abs.Ok.putSlot {a : Abs} (h : a.Ok) (d : Nat) {x : Val} (hx : x.Ok) : (a.putSlot d x).Ok :=
  ⟨h.reg, fun i hi => by show (if i = d then x else a.slot i).Ok; split; exact hx; exact h.slot i hi, h.word, h.cel, h.time, h.out, h.room⟩
theorem Abs.Ok.putCel {a : Abs} (h : a.Ok) (d : Nat) {n : Int} (hx : In64 n) : (a.putCel d n).Ok :=
  ⟨h.reg, h.slot, h.word, fun i hi => by show In64 (if i = d then n else a.cel i); split; exact hx; exact h.cel i hi, h.time, h.out, h.room⟩
theorem Abs.Ok.lose {a : Abs} (h : a.Ok) : a.lose.Ok :=
  ⟨fun i hi => by show (if 1 ≤ i ∧ i ≤ 5 then none0 else a.reg i).Ok; split; exact none0_ok; exact h.reg i hi, h.slot, h.word, h.cel, h.time, h.out, h.room⟩
theorem Abs.Ok.give {a : Abs} (h : a.Ok) {n : Int} (hn : In64 n) : (a.give n).Ok := by
  refine ⟨h.reg, h.slot, h.word, h.cel, h.time, ?_, ?_⟩
  · intro x hx
    change x ∈ (if a.out.length < 50 then a.out ++ [n] else a.out) at hx
    split at hx
    · rcases List.mem_append.1 hx with hx | hx
      · exact h.out x hx
      · rw [List.mem_singleton.1 hx]; exact hn
    · exact h.out x hx
  · show (if a.out.length < 50 then a.out ++ [n] else a.out).length ≤ 50
    split
    · rw [List.length_append]; show a.out.length + 1 ≤ 50; omega
    · exact h.room
theorem Abs.Ok.second {a : Abs} (h : a.Ok) {s : Nat} (hs : s < 11) (r : Bool) {n : Int} (hn : In64 n) : (a.second s r n).Ok := by
  unfold Abs.second; split; exact h.reg s hs; exact num_ok hn
theorem reach_in {p : Val} {o : Int} (h : (reachF p o).2 = 0) : 2 ≤ p.k ∨ p.k < 0 := by
  unfold reachF at h
  by_cases h0 : p.k = 0
  · rw [if_pos h0] at h; exact absurd h (by decide)
  by_cases h1 : p.k = 1
  · rw [if_neg h0, if_pos h1] at h; exact absurd h (by decide)
  omega
theorem reach_bd {p : Val} {o : Int} (h : (reachF p o).2 = 0) : 0 ≤ (reachF p o).1 ∧ (reachF p o).1 < reachMax p := by
  unfold reachF at h ⊢
  by_cases h0 : p.k = 0
  · rw [if_pos h0] at h; exact absurd h (by decide)
  by_cases h1 : p.k = 1
  · rw [if_neg h0, if_pos h1] at h; exact absurd h (by decide)
  rw [if_neg h0, if_neg h1] at h ⊢
  by_cases h2 : reachTo p o < 0 ∨ reachMax p ≤ reachTo p o
  · rw [if_pos h2] at h; exact absurd h (by decide)
  · rw [if_neg h2]; show 0 ≤ reachTo p o ∧ reachTo p o < reachMax p; omega
theorem Abs.Ok.at {a : Abs} (h : a.Ok) {p : Val} (hp : p.Ok) {o : Int} (hr : (reachF p o).2 = 0) : (a.at p (reachF p o).1.toNat).Ok := by
  have hb := reach_bd hr
  unfold reachMax at hb
  unfold Abs.at
  by_cases h2 : p.k = 2
  · rw [if_pos h2] at hb ⊢; exact num_ok (h.word _ (by omega))
  rw [if_neg h2] at hb ⊢
  by_cases h3 : p.k = 3
  · rw [if_pos h3] at hb ⊢; exact h.slot _ (by omega)
  · rw [if_neg h3] at hb ⊢; have := hp.c0; have := hp.c3; exact num_ok (h.cel _ (by omega))
theorem loadF_ok {a : Abs} (h : a.Ok) (d : Nat) {p : Val} (hp : p.Ok) (o : Int) : (loadF a d p o).2.Ok := by
  unfold loadF
  by_cases hr : (reachF p o).2 = 0
  · rw [if_neg (by simp [hr])]
    split
    · exact h
    · exact h.putReg d (h.at hp hr)
  · rw [if_pos hr]; exact h
theorem storeF_ok {a : Abs} (h : a.Ok) (p : Val) {v : Val} (hv : v.Ok) (o : Int) : (storeF a p v o).2.Ok := by
  unfold storeF
  split
  · exact h
  split
  · exact h
  split
  · exact h
  split
  · exact h.putSlot _ hv
  split
  · exact h
  · exact h.putCel _ hv.n
theorem found_ok {n : Int} : (foundF n).Ok := by
  unfold foundF
  split
  · exact num_ok ⟨by decide, by decide⟩
  · exact ⟨show (0 : Int) ≤ 4 by decide, show (4 : Int) ≤ 4 by decide, (⟨by decide, by decide⟩ : In64 0), by show 0 ≤ n; omega, by show n ≤ 3; omega⟩
theorem callF_ok {a : Abs} (h : a.Ok) (what : Int) : (callF a what).2.Ok := by
  unfold callF
  split
  · exact h
  split
  · exact h.lose.putReg 0 found_ok
  split
  · exact h.lose.putReg 0 (num_ok h.time)
  · exact (h.lose.give (h.reg 1 (by decide)).n).putReg 0 (num_ok ⟨by decide, by decide⟩)
theorem makesF_ok {c : Int} (hc : 1 ≤ c ∧ c ≤ 13) {a b : Val} (ha : a.Ok) (hb : b.Ok) : (makesF c a b).1.Ok := by
  have hd := doesV_bd hc ha.n.1 ha.n.2 hb.n.1 hb.n.2
  unfold makesF
  split
  · exact none0_ok
  split
  · exact hb
  split
  · exact ⟨ha.k0, ha.k4, hd, ha.c0, ha.c3⟩
  split
  · exact ⟨hb.k0, hb.k4, hd, hb.c0, hb.c3⟩
  · exact none0_ok
theorem doF_ok {c d s : Int} {r : Bool} {o n : Int} {a : Abs} (h : a.Ok) (c1 : 1 ≤ c) (c2 : c ≤ 28) (hc : c ≠ 28) (d1 : 0 ≤ d) (d2 : d ≤ 10) (s1 : 0 ≤ s) (s2 : s ≤ 10) (hn : In64 n) : (doF c d s r o n a).2.2.Ok := by
  have hd : d.toNat < 11 := by omega
  have hs : s.toNat < 11 := by omega
  unfold doF
  by_cases h1 : 15 ≤ c ∧ c ≤ 24
  · rw [if_pos h1]; exact h
  rw [if_neg h1]
  by_cases h2 : c = 14
  · rw [if_pos h2]; exact h
  rw [if_neg h2]
  by_cases h3 : c = 25
  · rw [if_pos h3]; exact loadF_ok h _ (h.reg _ hs) o
  rw [if_neg h3]
  by_cases h4 : c = 26
  · rw [if_pos h4]; exact storeF_ok h _ (h.second hs r hn) o
  rw [if_neg h4]
  by_cases h5 : c = 27
  · rw [if_pos h5]; exact callF_ok h n
  rw [if_neg h5]
  exact h.putReg _ (makesF_ok (by omega) (h.reg _ hd) (h.second hs r hn))
end Go.Proofs.YtednmkhdehlojaaGreatDoor
namespace Go.Proofs.YtednmkhdehlojaaGreatDoor
open Go.ChangeShapes Go.WideShapes Go.ChangeAt Go.RowKit
theorem MacAt.alloc {w : World} {B : Nat} {m : Mac} (h : MacAt w B m) (o : Obj) : MacAt (w.alloc o) B m := h.later ((bF _ _).alloc (Nat.le_refl _) _)
theorem MacAt.drew {w : World} {B : Nat} {m : Mac} (h : MacAt w B m) : MacAt w.drew B m := h
theorem MacAt.off {w : World} {B : Nat} {m : Mac} (h : MacAt w B m) (a : Addr) (v : Value) (hne : B ≠ a.block) : MacAt (w.setCell a v) B m := (Below.heap_setCell w a v B hne).trans h
theorem MacAt.put3 {w : World} {B d : Nat} {m : Mac} (h : MacAt w B m) (hd : d < 11) (k n c : Int) : MacAt (((w.setCell ⟨B, 2 + d * 3, none⟩ (vI vK k)).setCell ⟨B, 2 + d * 3 + 1, none⟩ (vI vK n)).setCell ⟨B, 2 + d * 3 + 2, none⟩ (vI vK c)) B (m.putReg d ⟨k, n, c⟩) := h.putReg hd ⟨k, n, c⟩
theorem drew_below {W w1 : World} (h : Below W.drew.heap.size W.drew w1) : Below W.heap.size W w1 := ((bF _ _).drew).trans h
theorem kept_refl (B : Nat) (w : World) : Kept B w w := ⟨rfl, rfl, rfl, Nat.le_refl _, fun _ _ _ => rfl⟩
theorem kept_alloc {w w1 : World} {B : Nat} (h : Kept B w w1) (o : Obj) : Kept B w (w1.alloc o) := kept_trans h (kept_below ((bF _ _).alloc (Nat.le_refl _) _) B)
theorem kept_new {w w1 : World} {B : Nat} (h : Kept B w w1) (a : Addr) (v : Value) (ha : w.heap.size ≤ a.block) : Kept B w (w1.setCell a v) :=
  ⟨h.os, h.tape, h.output, by show w.heap.size ≤ (w1.heap.modify _ _).size; rw [Array.size_modify]; exact h.size, fun k hk hne => (Below.heap_setCell w1 a v k (by omega)).trans (h.block k hk hne)⟩
theorem kept_later {w w1 w2 : World} {B : Nat} (h : Kept B w w1) (hb : Below w1.heap.size w1 w2) : Kept B w w2 := kept_trans h (kept_below hb B)
theorem kept_under {w w1 : World} {B : Nat} (h : Kept B w w1) (hB : B < w.heap.size) : Below B w w1 :=
  ⟨h.os, h.tape, h.output, h.size, fun k hk => h.block k (by omega) (fun e => by injection e with e; omega)⟩
def OutAt (w : World) (B : Nat) (v : Value) (L : List Int) : Prop := w.ownsRow (B + 1) 2 1 v L.length (L.map (Value.int .i64))
theorem OutAt.kept {w w1 : World} {B : Nat} {v : Value} {L : List Int} (h : OutAt w B v L) (hk : Kept B w w1) : OutAt w1 B v L := by
  obtain ⟨h1, h2⟩ := h
  refine ⟨h1, ?_⟩
  rcases h2 with h2 | ⟨g, cap, cur, hv, hg, hh, r⟩
  · exact Or.inl h2
  · exact Or.inr ⟨g, cap, cur, hv, hg, by rw [hk.block g (Array.getElem?_eq_some_iff.1 hh).1 (fun e => by injection e with e; omega)]; exact hh, r⟩
def Mac.abs (m : Mac) (L : List Int) : Abs := ⟨m.reg, m.slot, m.word, m.cel, m.time, L⟩
theorem Mac.cell_word (m : Mac) (i : Nat) (h : i < 8) : m.cell (83 + i) = vI vK (m.word i) := by
  unfold Mac.cell
  rw [if_neg (by omega), if_neg (by omega), if_neg (by omega), if_neg (by omega), if_pos (by omega), show 83 + i - 83 = i by omega]
theorem Mac.cell_cel (m : Mac) (i : Nat) (h : i < 16) : m.cell (91 + i) = vI vK (m.cel i) := by
  unfold Mac.cell
  rw [if_neg (by omega), if_neg (by omega), if_neg (by omega), if_neg (by omega), if_neg (by omega), if_pos (by omega), show 91 + i - 91 = i by omega]
def Mac.putSlot (m : Mac) (t : Nat) (x : Val) : Mac := { m with slot := fun i => if i = t then x else m.slot i }
def Mac.putCel (m : Mac) (t : Nat) (n : Int) : Mac := { m with cel := fun i => if i = t then n else m.cel i }
def Mac.setOut (m : Mac) (v : Value) : Mac := { m with out := v }
def Mac.setStep (m : Mac) (x : Int) : Mac := { m with step := x }
def Mac.setSteps (m : Mac) (x : Int) : Mac := { m with steps := x }
theorem Mac.cell_putSlot (m : Mac) (d : Nat) (hd : d < 16) (y : Val) (j : Nat) : (m.putSlot d y).cell j = if 35 + d * 3 ≤ j ∧ j < 35 + d * 3 + 3 then valCell y (j - (35 + d * 3)) else m.cell j := by
  by_cases h : 35 + d * 3 ≤ j ∧ j < 35 + d * 3 + 3
  · rw [if_pos h]
    unfold Mac.cell
    rw [if_neg (by omega), if_neg (by omega), if_neg (by omega), if_pos (by omega), show (j - 35) / 3 = d by omega, show (j - 35) % 3 = j - (35 + d * 3) by omega]
    show valCell (if d = d then y else m.slot d) _ = _
    rw [if_pos rfl]
  · rw [if_neg h]
    by_cases h35 : 35 ≤ j ∧ j < 83
    · unfold Mac.cell
      rw [if_neg (show ¬ j = 0 by omega), if_neg (show ¬ j = 1 by omega), if_neg (show ¬ j < 35 by omega), if_pos h35.2, if_neg (show ¬ j = 0 by omega), if_neg (show ¬ j = 1 by omega), if_neg (show ¬ j < 35 by omega), if_pos h35.2]
      show valCell (if (j - 35) / 3 = d then y else m.slot ((j - 35) / 3)) _ = _
      rw [if_neg (by omega)]
    · by_cases h2 : j < 35
      · unfold Mac.cell
        by_cases h0 : j = 0
        · rw [if_pos h0, if_pos h0]; rfl
        by_cases h1 : j = 1
        · rw [if_neg h0, if_pos h1, if_neg h0, if_pos h1]; rfl
        rw [if_neg h0, if_neg h1, if_pos h2, if_neg h0, if_neg h1, if_pos h2]; rfl
      · unfold Mac.cell
        rw [if_neg (show ¬ j = 0 by omega), if_neg (show ¬ j = 1 by omega), if_neg (show ¬ j < 35 by omega), if_neg (show ¬ j < 83 by omega), if_neg (show ¬ j = 0 by omega), if_neg (show ¬ j = 1 by omega), if_neg (show ¬ j < 35 by omega), if_neg (show ¬ j < 83 by omega)]
        rfl
theorem Mac.cell_putCel (m : Mac) (d : Nat) (hd : d < 16) (y : Int) (j : Nat) : (m.putCel d y).cell j = if j = 91 + d then vI vK y else m.cell j := by
  by_cases h : j = 91 + d
  · rw [if_pos h]
    unfold Mac.cell
    rw [if_neg (by omega), if_neg (by omega), if_neg (by omega), if_neg (by omega), if_neg (by omega), if_pos (by omega), show j - 91 = d by omega]
    show Value.int .i64 (if d = d then y else m.cel d) = _
    rw [if_pos rfl]
  · rw [if_neg h]
    by_cases h91 : 91 ≤ j ∧ j < 107
    · unfold Mac.cell
      rw [if_neg (show ¬ j = 0 by omega), if_neg (show ¬ j = 1 by omega), if_neg (show ¬ j < 35 by omega), if_neg (show ¬ j < 83 by omega), if_neg (show ¬ j < 91 by omega), if_pos h91.2, if_neg (show ¬ j = 0 by omega), if_neg (show ¬ j = 1 by omega), if_neg (show ¬ j < 35 by omega), if_neg (show ¬ j < 83 by omega), if_neg (show ¬ j < 91 by omega), if_pos h91.2]
      show Value.int .i64 (if j - 91 = d then y else m.cel (j - 91)) = _
      rw [if_neg (by omega)]
    · unfold Mac.cell
      by_cases h0 : j = 0
      · rw [if_pos h0, if_pos h0]; rfl
      by_cases h1 : j = 1
      · rw [if_neg h0, if_pos h1, if_neg h0, if_pos h1]; rfl
      by_cases h2 : j < 35
      · rw [if_neg h0, if_neg h1, if_pos h2, if_neg h0, if_neg h1, if_pos h2]; rfl
      by_cases h3 : j < 83
      · rw [if_neg h0, if_neg h1, if_neg h2, if_pos h3, if_neg h0, if_neg h1, if_neg h2, if_pos h3]; rfl
      by_cases h4 : j < 91
      · rw [if_neg h0, if_neg h1, if_neg h2, if_neg h3, if_pos h4, if_neg h0, if_neg h1, if_neg h2, if_neg h3, if_pos h4]; rfl
      · rw [if_neg h0, if_neg h1, if_neg h2, if_neg h3, if_neg h4, if_neg (show ¬ j < 107 by omega), if_neg h0, if_neg h1, if_neg h2, if_neg h3, if_neg h4, if_neg (show ¬ j < 107 by omega)]; rfl
theorem slot_part (m : Mac) (d : Nat) (hd : d < 16) (y z : Val) (i : Nat) (hi : i < 3) (h : ∀ j, j < 3 → valCell z j = if j = i then valCell z i else valCell y j) : ∀ j, j < 109 → (m.putSlot d z).cell j = if j = 35 + d * 3 + i then valCell z i else (m.putSlot d y).cell j := by
  intro j _
  rw [m.cell_putSlot d hd z j, m.cell_putSlot d hd y j]
  by_cases hin : 35 + d * 3 ≤ j ∧ j < 35 + d * 3 + 3
  · rw [if_pos hin, if_pos hin, h _ (by omega)]
    by_cases e : j = 35 + d * 3 + i
    · rw [if_pos e, if_pos (by omega)]
    · rw [if_neg e, if_neg (by omega)]
  · rw [if_neg hin, if_neg hin, if_neg (by omega)]
theorem slot_same (m : Mac) (d : Nat) : m.putSlot d (m.slot d) = m := by
  unfold Mac.putSlot
  have : (fun i => if i = d then m.slot d else m.slot i) = m.slot := by
    funext i
    by_cases h : i = d
    · rw [if_pos h, h]
    · rw [if_neg h]
  rw [this]
theorem MacAt.slot3 {w : World} {B d : Nat} {m : Mac} (h : MacAt w B m) (hd : d < 16) (k n c : Int) : MacAt (((w.setCell ⟨B, 35 + d * 3, none⟩ (vI vK k)).setCell ⟨B, 35 + d * 3 + 1, none⟩ (vI vK n)).setCell ⟨B, 35 + d * 3 + 2, none⟩ (vI vK c)) B (m.putSlot d ⟨k, n, c⟩) := by
  have h1 : MacAt (w.setCell ⟨B, 35 + d * 3, none⟩ (vI vK k)) B (m.putSlot d ⟨k, (m.slot d).n, (m.slot d).c⟩) := h.set _ (by omega) _ fun j hj => by
    have := slot_part m d hd (m.slot d) ⟨k, (m.slot d).n, (m.slot d).c⟩ 0 (by omega) (fun j hj => by rcases (show j = 0 ∨ j = 1 ∨ j = 2 by omega) with rfl | rfl | rfl <;> rfl) j hj
    rw [this, slot_same m d]; rfl
  have h2 : MacAt ((w.setCell ⟨B, 35 + d * 3, none⟩ (vI vK k)).setCell ⟨B, 35 + d * 3 + 1, none⟩ (vI vK n)) B (m.putSlot d ⟨k, n, (m.slot d).c⟩) := h1.set _ (by omega) _ fun j hj =>
    slot_part m d hd ⟨k, (m.slot d).n, (m.slot d).c⟩ ⟨k, n, (m.slot d).c⟩ 1 (by omega) (fun j hj => by rcases (show j = 0 ∨ j = 1 ∨ j = 2 by omega) with rfl | rfl | rfl <;> rfl) j hj
  exact h2.set _ (by omega) _ fun j hj =>
    slot_part m d hd ⟨k, n, (m.slot d).c⟩ ⟨k, n, c⟩ 2 (by omega) (fun j hj => by rcases (show j = 0 ∨ j = 1 ∨ j = 2 by omega) with rfl | rfl | rfl <;> rfl) j hj
theorem MacAt.cel1 {w : World} {B d : Nat} {m : Mac} (h : MacAt w B m) (hd : d < 16) (n : Int) : MacAt (w.setCell ⟨B, 91 + d, none⟩ (vI vK n)) B (m.putCel d n) :=
  h.set _ (by omega) _ fun j _ => m.cell_putCel d hd n j
theorem MacAt.slot {w : World} {B d : Nat} {m : Mac} (h : MacAt w B m) (hd : d < 16) : w.cell? ⟨B, 35 + d * 3, none⟩ = some (vI vK (m.slot d).k) ∧ w.cell? ⟨B, 35 + d * 3 + 1, none⟩ = some (vI vK (m.slot d).n) ∧ w.cell? ⟨B, 35 + d * 3 + 2, none⟩ = some (vI vK (m.slot d).c) :=
  ⟨by rw [h.at _ (by omega), (m.cell_slot d hd).1], by rw [h.at _ (by omega), (m.cell_slot d hd).2.1], by rw [h.at _ (by omega), (m.cell_slot d hd).2.2]⟩
theorem MacAt.word {w : World} {B d : Nat} {m : Mac} (h : MacAt w B m) (hd : d < 8) : w.cell? ⟨B, 83 + d, none⟩ = some (vI vK (m.word d)) := by rw [h.at _ (by omega), m.cell_word d hd]
theorem MacAt.cel {w : World} {B d : Nat} {m : Mac} (h : MacAt w B m) (hd : d < 16) : w.cell? ⟨B, 91 + d, none⟩ = some (vI vK (m.cel d)) := by rw [h.at _ (by omega), m.cell_cel d hd]
theorem MacAt.step {w : World} {B : Nat} {m : Mac} (h : MacAt w B m) : w.cell? ⟨B, 0, none⟩ = some (vI vK m.step) := h.at 0 (by omega)
theorem MacAt.steps {w : World} {B : Nat} {m : Mac} (h : MacAt w B m) : w.cell? ⟨B, 1, none⟩ = some (vI vK m.steps) := h.at 1 (by omega)
theorem MacAt.time {w : World} {B : Nat} {m : Mac} (h : MacAt w B m) : w.cell? ⟨B, 107, none⟩ = some (vI vK m.time) := h.at 107 (by omega)
theorem MacAt.outv {w : World} {B : Nat} {m : Mac} (h : MacAt w B m) : w.cell? ⟨B, 108, none⟩ = some m.out := h.at 108 (by omega)
theorem MacAt.putOut {w : World} {B : Nat} {m : Mac} (h : MacAt w B m) (v : Value) : MacAt (w.setCell ⟨B, 108, none⟩ v) B (m.setOut v) :=
  h.set 108 (by omega) v fun j hj => by
    by_cases e : j = 108
    · rw [if_pos e, e]; rfl
    · rw [if_neg e]
      unfold Mac.cell
      by_cases h0 : j = 0
      · rw [if_pos h0, if_pos h0]; rfl
      by_cases h1 : j = 1
      · rw [if_neg h0, if_pos h1, if_neg h0, if_pos h1]; rfl
      by_cases h2 : j < 35
      · rw [if_neg h0, if_neg h1, if_pos h2, if_neg h0, if_neg h1, if_pos h2]; rfl
      by_cases h3 : j < 83
      · rw [if_neg h0, if_neg h1, if_neg h2, if_pos h3, if_neg h0, if_neg h1, if_neg h2, if_pos h3]; rfl
      by_cases h4 : j < 91
      · rw [if_neg h0, if_neg h1, if_neg h2, if_neg h3, if_pos h4, if_neg h0, if_neg h1, if_neg h2, if_neg h3, if_pos h4]; rfl
      by_cases h5 : j < 107
      · rw [if_neg h0, if_neg h1, if_neg h2, if_neg h3, if_neg h4, if_pos h5, if_neg h0, if_neg h1, if_neg h2, if_neg h3, if_neg h4, if_pos h5]; rfl
      rw [if_neg h0, if_neg h1, if_neg h2, if_neg h3, if_neg h4, if_neg h5, if_pos (by omega), if_neg h0, if_neg h1, if_neg h2, if_neg h3, if_neg h4, if_neg h5, if_pos (by omega)]; rfl
theorem MacAt.putStep {w : World} {B : Nat} {m : Mac} (h : MacAt w B m) (x : Int) : MacAt (w.setCell ⟨B, 0, none⟩ (vI vK x)) B (m.setStep x) :=
  h.set 0 (by omega) _ fun j hj => by
    by_cases e : j = 0
    · rw [if_pos e, e]; rfl
    · rw [if_neg e]; unfold Mac.cell; rw [if_neg e, if_neg e]; rfl
theorem MacAt.putSteps {w : World} {B : Nat} {m : Mac} (h : MacAt w B m) (x : Int) : MacAt (w.setCell ⟨B, 1, none⟩ (vI vK x)) B (m.setSteps x) :=
  h.set 1 (by omega) _ fun j hj => by
    by_cases e : j = 1
    · rw [if_pos e, e]; rfl
    · rw [if_neg e]; unfold Mac.cell
      by_cases h0 : j = 0
      · rw [if_pos h0, if_pos h0]; rfl
      · rw [if_neg h0, if_neg e, if_neg h0, if_neg e]; rfl
end Go.Proofs.YtednmkhdehlojaaGreatDoor
namespace Go.Proofs.YtednmkhdehlojaaGreatDoor
open Go.ChangeShapes Go.WideShapes Go.ChangeAt Go.RowKit
attribute [local simp] drew_size drewN_size setCell_size
theorem ask_any (B d s : Nat) (c o n : Int) (r : Bool) (m : Mac) (hd : d < 11) (hs : s < 11) (ak an ac bk bn bc : Int) (HA : Hid (m.reg d = ⟨ak, an, ac⟩)) (HB : Hid (m.second s r n = ⟨bk, bn, bc⟩)) (w : World) (hM : MacAt w B m) :
    Calls Tryz.prog 117 #[.pointer (some ⟨B, 0, none⟩), .agg #[vI vK c, vI vK d, vI vK s, .bool r, vI vK o, vI vK n]] w fun e w' => e = .returned (.tuple #[vI vK (askF c ⟨ak, an, ac⟩ ⟨bk, bn, bc⟩ r o n).1, vI vK (askF c ⟨ak, an, ac⟩ ⟨bk, bn, bc⟩ r o n).2]) ∧ Below w.heap.size w w' := by
  have hB := hM.lt
  have hF0 : Frm w.heap.size B c d s r o n m _ := Frm.start hM
  obtain ⟨p0, p1, p2, p3, p4, p5⟩ := hF0.cells
  obtain ⟨h0, h1, h2⟩ := hF0.mac.reg hd
  rw [HA.out] at h0 h1 h2
  have hd0 : (0 : Int) ≤ (d : Int) := by omega
  have hd1 : (d : Int) < 11 := by omega
  go_enter Tryz.func117, Tryz.ntmps117
  go_wp2_with fail
  go_cut [6, 7] (fun s6 s7 wx => ∃ L K : Nat, s6 = .pointer (some ⟨L, 0, none⟩) ∧ s7 = .pointer (some ⟨K, 0, none⟩) ∧ Below w.heap.size w wx ∧ Frm w.heap.size B c d s r o n m wx ∧ L < wx.heap.size ∧ K < wx.heap.size ∧ wx.cell? ⟨L, 0, none⟩ = some (vI vK ak) ∧ wx.cell? ⟨L, 1, none⟩ = some (vI vK an) ∧ wx.cell? ⟨L, 2, none⟩ = some (vI vK ac) ∧ wx.cell? ⟨K, 0, none⟩ = some (vI vK bk) ∧ wx.cell? ⟨K, 1, none⟩ = some (vI vK bn) ∧ wx.cell? ⟨K, 2, none⟩ = some (vI vK bc))
  case first =>
    go_region_held3 (fun w' => w'.cell? ⟨w.heap.size, 0, none⟩ = some (vI vK c) ∧ w'.cell? ⟨w.heap.size, 1, none⟩ = some (vI vK d) ∧ w'.cell? ⟨w.heap.size, 2, none⟩ = some (vI vK s) ∧ w'.cell? ⟨w.heap.size, 3, none⟩ = some (.bool r) ∧ w'.cell? ⟨w.heap.size, 4, none⟩ = some (vI vK o) ∧ w'.cell? ⟨w.heap.size, 5, none⟩ = some (vI vK n) ∧ w'.cell? ⟨B, 2 + d * 3, none⟩ = some (vI vK ak) ∧ w'.cell? ⟨B, 2 + d * 3 + 1, none⟩ = some (vI vK an) ∧ w'.cell? ⟨B, 2 + d * 3 + 2, none⟩ = some (vI vK ac)) (first | (simp [go_sem]; done) | (simp [go_sem, *]; done) | go_keep) (first
      | (go_at_call 154; go_must (refine (second_any B s c d o n r m hs _ (Frm.mac (S := w.heap.size) (c := c) (d := d) (s := s) (r := r) (o := o) (n := n) (by repeat' first | exact hF0 | exact hF1 | exact hF2 | refine Frm.alloc ?_ _ | refine Frm.drew ?_ | refine Frm.drewN ?_ _ | refine Frm.set ?_ _ _ ?_ ?_ | (intro hh; simp at hh; done) | (intro hh; simp at hh; omega)))).mono ?_; rintro e w1 ⟨rfl, hb1⟩; rw [HB.out]; simp only [Val.v]; have hF1 : Frm w.heap.size B c d s r o n m w1 := Frm.later (by repeat' first | exact hF0 | exact hF1 | exact hF2 | refine Frm.alloc ?_ _ | refine Frm.drew ?_ | refine Frm.drewN ?_ _ | refine Frm.set ?_ _ _ ?_ ?_ | (intro hh; simp at hh; done) | (intro hh; simp at hh; omega)) hb1; have hbw1 : Below w.heap.size w w1 := (by ((refine Below.trans ?_ (hb1.mono ?_)) <;> repeat' first | exact bF _ _ | exact hbw1 | exact hbw2 | refine bA ?_ ?_ _ | refine bS ?_ ?_ _ | refine bD ?_ | refine below_drewN ?_ _ | (simp; done) | (simp; omega) | omega)); obtain ⟨v0, v1, v2, v3, v4, v5⟩ := hF1.cells; obtain ⟨i0, i1, i2⟩ := hF1.mac.reg hd; rw [HA.out] at i0 i1 i2; have hS1 := hF1.ltS; have hB1 := hF1.mac.lt; have v6 := later_box hb1 (w.heap.size + 1); (try simp [go_sem] at v6); have v7 := later_box hb1 (w.heap.size + 1 + 1); (try simp [go_sem] at v7))))
    all_goals (go_wp2_with fail; go_meet)
    all_goals refine ⟨_, _, rfl, rfl, ?_, ?_, ?_, ?_, ?_, ?_, ?_, ?_, ?_, ?_⟩
    all_goals clear HA HB p0 p1 p2 p3 p4 p5 h0 h1 h2 hF0
    all_goals first
      | (with_reducible refine bA ?_ ?_ _; (repeat' first | with_reducible (first | exact hbw1 | refine bA ?_ ?_ _ | refine bS ?_ ?_ _) | ((try dsimp only); omega) | (simp; done) | (simp; omega)); done)
      | (with_reducible refine bS ?_ ?_ _; (repeat' first | with_reducible (first | exact hbw1 | refine bA ?_ ?_ _ | refine bS ?_ ?_ _) | ((try dsimp only); omega) | (simp; done) | (simp; omega)); done)
      | (with_reducible refine Frm.alloc ?_ _; (repeat' first | with_reducible (first | exact hF1 | refine Frm.alloc ?_ _ | refine Frm.set ?_ _ _ ?_ ?_) | ((try dsimp only); omega) | (simp; done) | (simp; omega)); done)
      | (with_reducible refine Frm.set ?_ _ _ ?_ ?_; (repeat' first | with_reducible (first | exact hF1 | refine Frm.alloc ?_ _ | refine Frm.set ?_ _ _ ?_ ?_) | ((try dsimp only); omega) | (simp; done) | (simp; omega)); done)
      | (simp; done) | (simp; omega) | (simp [go_sem]; done) | (simp [go_sem, v6]; done) | (simp [go_sem, v7]; done) | (simp [go_sem, *]; done)
  case rest =>
    obtain ⟨L, K, rfl, rfl, hbw, hFx, hL, hK, l0, l1, l2, g0, g1, g2⟩ := hcut
    obtain ⟨v0, v1, v2, v3, v4, v5⟩ := hFx.cells
    have hSx := hFx.ltS
    clear p0 p1 p2 p3 p4 p5 h0 h1 h2 hF0 hFx HA HB hM
    by_cases ha : ak = 0
    · have x0 : (ak == 0) = true := by simp; omega
      have HV : Hid (askF c ⟨ak, an, ac⟩ ⟨bk, bn, bc⟩ r o n = (0, 8)) := by
        show askF c ⟨ak, an, ac⟩ ⟨bk, bn, bc⟩ r o n = (0, 8)
        exact askF_a ha
      clear ha
      go_wp2
      all_goals go_ret2
      all_goals exact ⟨by rw [HV.out]; rfl, hbw⟩
    by_cases hb : bk = 0
    · have x0 : (ak == 0) = false := by simp; omega
      have x1 : (bk == 0) = true := by simp; omega
      have HV : Hid (askF c ⟨ak, an, ac⟩ ⟨bk, bn, bc⟩ r o n = (0, 8)) := by
        show askF c ⟨ak, an, ac⟩ ⟨bk, bn, bc⟩ r o n = (0, 8)
        exact askF_b hb
      clear ha hb
      go_wp2
      all_goals go_ret2
      all_goals exact ⟨by rw [HV.out]; rfl, hbw⟩
    by_cases ha1 : ak = 1
    · by_cases hb1 : bk = 1
      · cases hi : isV c an bn
        · skip
          have x0 : (ak == 0) = false := by simp; omega
          have x1 : (bk == 0) = false := by simp; omega
          have x2 : (ak == 1) = true := by simp; omega
          have x3 : (bk == 1) = true := by simp; omega
          have HV : Hid (askF c ⟨ak, an, ac⟩ ⟨bk, bn, bc⟩ r o n = (0, 0)) := by
            show askF c ⟨ak, an, ac⟩ ⟨bk, bn, bc⟩ r o n = (0, 0)
            exact askF_not ha1 hb1 hi
          have HI : Hid (isV c an bn = _) := hi
          clear ha hb ha1 hb1 hi
          go_wp2_with (first | (go_at_call 155; refine (is_any _ _ _ _).mono ?_; rintro e w1 ⟨rfl, rfl⟩; rw [HI.out]) | go_in)
          all_goals go_ret2
          all_goals exact ⟨by rw [HV.out]; rfl, hbw⟩
        · skip
          have x0 : (ak == 0) = false := by simp; omega
          have x1 : (bk == 0) = false := by simp; omega
          have x2 : (ak == 1) = true := by simp; omega
          have x3 : (bk == 1) = true := by simp; omega
          have HV : Hid (askF c ⟨ak, an, ac⟩ ⟨bk, bn, bc⟩ r o n = (o, 0)) := by
            show askF c ⟨ak, an, ac⟩ ⟨bk, bn, bc⟩ r o n = (o, 0)
            exact askF_so ha1 hb1 hi
          have HI : Hid (isV c an bn = _) := hi
          clear ha hb ha1 hb1 hi
          go_wp2_with (first | (go_at_call 155; refine (is_any _ _ _ _).mono ?_; rintro e w1 ⟨rfl, rfl⟩; rw [HI.out]) | go_in)
          all_goals go_ret2
          all_goals exact ⟨by rw [HV.out]; rfl, hbw⟩
      · skip
        by_cases hj : c = 15
        · cases r
          · by_cases hn : n = 0
            · skip
              have x0 : (ak == 0) = false := by simp; omega
              have x1 : (bk == 0) = false := by simp; omega
              have x2 : (ak == 1) = true := by simp; omega
              have x3 : (bk == 1) = false := by simp; omega
              have x4 : (c != 15) = false := by simp; omega
              have x5 : (c == 16) = false := by simp; omega
              have x6 : (n != 0) = false := by simp; omega
              have HV : Hid (askF c ⟨ak, an, ac⟩ ⟨bk, bn, bc⟩ false o n = (0, 0)) := by
                show askF c ⟨ak, an, ac⟩ ⟨bk, bn, bc⟩ false o n = (0, 0)
                exact askF_eq ha hb (by omega) hj hn
              clear ha ha1 hb hb1 hj hn
              go_wp2
              all_goals go_ret2
              all_goals exact ⟨by rw [HV.out]; rfl, hbw⟩
            · skip
              have x0 : (ak == 0) = false := by simp; omega
              have x1 : (bk == 0) = false := by simp; omega
              have x2 : (ak == 1) = true := by simp; omega
              have x3 : (bk == 1) = false := by simp; omega
              have x4 : (c != 15) = false := by simp; omega
              have x5 : (n != 0) = true := by simp; omega
              have HV : Hid (askF c ⟨ak, an, ac⟩ ⟨bk, bn, bc⟩ false o n = (0, 1)) := by
                show askF c ⟨ak, an, ac⟩ ⟨bk, bn, bc⟩ false o n = (0, 1)
                exact askF_arg ha hb (by omega) (Or.inr (Or.inr hn))
              clear ha ha1 hb hb1 hj hn
              go_wp2
              all_goals go_ret2
              all_goals exact ⟨by rw [HV.out]; rfl, hbw⟩
          · skip
            have x0 : (ak == 0) = false := by simp; omega
            have x1 : (bk == 0) = false := by simp; omega
            have x2 : (ak == 1) = true := by simp; omega
            have x3 : (bk == 1) = false := by simp; omega
            have x4 : (c != 15) = false := by simp; omega
            have HV : Hid (askF c ⟨ak, an, ac⟩ ⟨bk, bn, bc⟩ true o n = (0, 1)) := by
              show askF c ⟨ak, an, ac⟩ ⟨bk, bn, bc⟩ true o n = (0, 1)
              exact askF_arg ha hb (by omega) (Or.inr (Or.inl rfl))
            clear ha ha1 hb hb1 hj
            go_wp2
            all_goals go_ret2
            all_goals exact ⟨by rw [HV.out]; rfl, hbw⟩
        · by_cases hk : c = 16
          · cases r
            · by_cases hn : n = 0
              · skip
                have x0 : (ak == 0) = false := by simp; omega
                have x1 : (bk == 0) = false := by simp; omega
                have x2 : (ak == 1) = true := by simp; omega
                have x3 : (bk == 1) = false := by simp; omega
                have x4 : (c != 15) = true := by simp; omega
                have x5 : (c != 16) = false := by simp; omega
                have x6 : (c == 16) = true := by simp; omega
                have x7 : (n != 0) = false := by simp; omega
                have HV : Hid (askF c ⟨ak, an, ac⟩ ⟨bk, bn, bc⟩ false o n = (o, 0)) := by
                  show askF c ⟨ak, an, ac⟩ ⟨bk, bn, bc⟩ false o n = (o, 0)
                  exact askF_ne ha hb (by omega) hk hn
                clear ha ha1 hb hb1 hj hk hn
                go_wp2
                all_goals go_ret2
                all_goals exact ⟨by rw [HV.out]; rfl, hbw⟩
              · skip
                have x0 : (ak == 0) = false := by simp; omega
                have x1 : (bk == 0) = false := by simp; omega
                have x2 : (ak == 1) = true := by simp; omega
                have x3 : (bk == 1) = false := by simp; omega
                have x4 : (c != 15) = true := by simp; omega
                have x5 : (c != 16) = false := by simp; omega
                have x6 : (n != 0) = true := by simp; omega
                have HV : Hid (askF c ⟨ak, an, ac⟩ ⟨bk, bn, bc⟩ false o n = (0, 1)) := by
                  show askF c ⟨ak, an, ac⟩ ⟨bk, bn, bc⟩ false o n = (0, 1)
                  exact askF_arg ha hb (by omega) (Or.inr (Or.inr hn))
                clear ha ha1 hb hb1 hj hk hn
                go_wp2
                all_goals go_ret2
                all_goals exact ⟨by rw [HV.out]; rfl, hbw⟩
            · skip
              have x0 : (ak == 0) = false := by simp; omega
              have x1 : (bk == 0) = false := by simp; omega
              have x2 : (ak == 1) = true := by simp; omega
              have x3 : (bk == 1) = false := by simp; omega
              have x4 : (c != 15) = true := by simp; omega
              have x5 : (c != 16) = false := by simp; omega
              have HV : Hid (askF c ⟨ak, an, ac⟩ ⟨bk, bn, bc⟩ true o n = (0, 1)) := by
                show askF c ⟨ak, an, ac⟩ ⟨bk, bn, bc⟩ true o n = (0, 1)
                exact askF_arg ha hb (by omega) (Or.inr (Or.inl rfl))
              clear ha ha1 hb hb1 hj hk
              go_wp2
              all_goals go_ret2
              all_goals exact ⟨by rw [HV.out]; rfl, hbw⟩
          · skip
            have x0 : (ak == 0) = false := by simp; omega
            have x1 : (bk == 0) = false := by simp; omega
            have x2 : (ak == 1) = true := by simp; omega
            have x3 : (bk == 1) = false := by simp; omega
            have x4 : (c != 15) = true := by simp; omega
            have x5 : (c != 16) = true := by simp; omega
            have HV : Hid (askF c ⟨ak, an, ac⟩ ⟨bk, bn, bc⟩ r o n = (0, 1)) := by
              show askF c ⟨ak, an, ac⟩ ⟨bk, bn, bc⟩ r o n = (0, 1)
              exact askF_arg ha hb (by omega) (Or.inl ⟨hj, hk⟩)
            clear ha ha1 hb hb1 hj hk
            go_wp2
            all_goals go_ret2
            all_goals exact ⟨by rw [HV.out]; rfl, hbw⟩
    · skip
      by_cases hj : c = 15
      · cases r
        · by_cases hn : n = 0
          · skip
            have x0 : (ak == 0) = false := by simp; omega
            have x1 : (bk == 0) = false := by simp; omega
            have x2 : (ak == 1) = false := by simp; omega
            have x3 : (c != 15) = false := by simp; omega
            have x4 : (c == 16) = false := by simp; omega
            have x5 : (n != 0) = false := by simp; omega
            have HV : Hid (askF c ⟨ak, an, ac⟩ ⟨bk, bn, bc⟩ false o n = (0, 0)) := by
              show askF c ⟨ak, an, ac⟩ ⟨bk, bn, bc⟩ false o n = (0, 0)
              exact askF_eq ha hb (by omega) hj hn
            clear ha ha1 hb hj hn
            go_wp2
            all_goals go_ret2
            all_goals exact ⟨by rw [HV.out]; rfl, hbw⟩
          · skip
            have x0 : (ak == 0) = false := by simp; omega
            have x1 : (bk == 0) = false := by simp; omega
            have x2 : (ak == 1) = false := by simp; omega
            have x3 : (c != 15) = false := by simp; omega
            have x4 : (n != 0) = true := by simp; omega
            have HV : Hid (askF c ⟨ak, an, ac⟩ ⟨bk, bn, bc⟩ false o n = (0, 1)) := by
              show askF c ⟨ak, an, ac⟩ ⟨bk, bn, bc⟩ false o n = (0, 1)
              exact askF_arg ha hb (by omega) (Or.inr (Or.inr hn))
            clear ha ha1 hb hj hn
            go_wp2
            all_goals go_ret2
            all_goals exact ⟨by rw [HV.out]; rfl, hbw⟩
        · skip
          have x0 : (ak == 0) = false := by simp; omega
          have x1 : (bk == 0) = false := by simp; omega
          have x2 : (ak == 1) = false := by simp; omega
          have x3 : (c != 15) = false := by simp; omega
          have HV : Hid (askF c ⟨ak, an, ac⟩ ⟨bk, bn, bc⟩ true o n = (0, 1)) := by
            show askF c ⟨ak, an, ac⟩ ⟨bk, bn, bc⟩ true o n = (0, 1)
            exact askF_arg ha hb (by omega) (Or.inr (Or.inl rfl))
          clear ha ha1 hb hj
          go_wp2
          all_goals go_ret2
          all_goals exact ⟨by rw [HV.out]; rfl, hbw⟩
      · by_cases hk : c = 16
        · cases r
          · by_cases hn : n = 0
            · skip
              have x0 : (ak == 0) = false := by simp; omega
              have x1 : (bk == 0) = false := by simp; omega
              have x2 : (ak == 1) = false := by simp; omega
              have x3 : (c != 15) = true := by simp; omega
              have x4 : (c != 16) = false := by simp; omega
              have x5 : (c == 16) = true := by simp; omega
              have x6 : (n != 0) = false := by simp; omega
              have HV : Hid (askF c ⟨ak, an, ac⟩ ⟨bk, bn, bc⟩ false o n = (o, 0)) := by
                show askF c ⟨ak, an, ac⟩ ⟨bk, bn, bc⟩ false o n = (o, 0)
                exact askF_ne ha hb (by omega) hk hn
              clear ha ha1 hb hj hk hn
              go_wp2
              all_goals go_ret2
              all_goals exact ⟨by rw [HV.out]; rfl, hbw⟩
            · skip
              have x0 : (ak == 0) = false := by simp; omega
              have x1 : (bk == 0) = false := by simp; omega
              have x2 : (ak == 1) = false := by simp; omega
              have x3 : (c != 15) = true := by simp; omega
              have x4 : (c != 16) = false := by simp; omega
              have x5 : (n != 0) = true := by simp; omega
              have HV : Hid (askF c ⟨ak, an, ac⟩ ⟨bk, bn, bc⟩ false o n = (0, 1)) := by
                show askF c ⟨ak, an, ac⟩ ⟨bk, bn, bc⟩ false o n = (0, 1)
                exact askF_arg ha hb (by omega) (Or.inr (Or.inr hn))
              clear ha ha1 hb hj hk hn
              go_wp2
              all_goals go_ret2
              all_goals exact ⟨by rw [HV.out]; rfl, hbw⟩
          · skip
            have x0 : (ak == 0) = false := by simp; omega
            have x1 : (bk == 0) = false := by simp; omega
            have x2 : (ak == 1) = false := by simp; omega
            have x3 : (c != 15) = true := by simp; omega
            have x4 : (c != 16) = false := by simp; omega
            have HV : Hid (askF c ⟨ak, an, ac⟩ ⟨bk, bn, bc⟩ true o n = (0, 1)) := by
              show askF c ⟨ak, an, ac⟩ ⟨bk, bn, bc⟩ true o n = (0, 1)
              exact askF_arg ha hb (by omega) (Or.inr (Or.inl rfl))
            clear ha ha1 hb hj hk
            go_wp2
            all_goals go_ret2
            all_goals exact ⟨by rw [HV.out]; rfl, hbw⟩
        · skip
          have x0 : (ak == 0) = false := by simp; omega
          have x1 : (bk == 0) = false := by simp; omega
          have x2 : (ak == 1) = false := by simp; omega
          have x3 : (c != 15) = true := by simp; omega
          have x4 : (c != 16) = true := by simp; omega
          have HV : Hid (askF c ⟨ak, an, ac⟩ ⟨bk, bn, bc⟩ r o n = (0, 1)) := by
            show askF c ⟨ak, an, ac⟩ ⟨bk, bn, bc⟩ r o n = (0, 1)
            exact askF_arg ha hb (by omega) (Or.inl ⟨hj, hk⟩)
          clear ha ha1 hb hj hk
          go_wp2
          all_goals go_ret2
          all_goals exact ⟨by rw [HV.out]; rfl, hbw⟩
theorem load_no (B d s : Nat) (c o n : Int) (r : Bool) (m : Mac) (hd : d < 11) (hs : s < 11) (fk fn fc : Int) (HA : Hid (m.reg s = ⟨fk, fn, fc⟩)) (t E : Int) (HR : Hid (reachF ⟨fk, fn, fc⟩ o = (t, E))) (hE : (E != 0) = true) (w : World) (hM : MacAt w B m) :
    Calls Tryz.prog 118 #[.pointer (some ⟨B, 0, none⟩), .agg #[vI vK c, vI vK d, vI vK s, .bool r, vI vK o, vI vK n]] w fun e w' => e = .returned (vI vK E) ∧ Below w.heap.size w w' := by
  have hB := hM.lt
  have hF0 : Frm w.heap.size B c d s r o n m _ := Frm.start hM
  obtain ⟨p0, p1, p2, p3, p4, p5⟩ := hF0.cells
  obtain ⟨h0, h1, h2⟩ := hF0.mac.reg hs
  rw [HA.out] at h0 h1 h2
  have hs0 : (0 : Int) ≤ (s : Int) := by omega
  have hs1 : (s : Int) < 11 := by omega
  have hd0 : (0 : Int) ≤ (d : Int) := by omega
  have hd1 : (d : Int) < 11 := by omega
  go_enter Tryz.func118, Tryz.ntmps118
  go_wp2_with fail
  go_region
  all_goals go_wp2_with (first
    | (go_at_call 156; refine (reach_any ⟨fk, fn, fc⟩ o _).mono ?_; rintro e w1 ⟨rfl, hb1⟩; rw [HR.out]; have hF1 : Frm w.heap.size B c d s r o n m w1 := Frm.later (by repeat' first | with_reducible (first | exact hF0 | exact hF1 | refine Frm.alloc ?_ _ | refine Frm.drew ?_) | with_reducible refine Frm.drewN ?_ _) hb1; have hbw : Below w.heap.size w w1 := (by ((refine Below.trans ?_ (hb1.mono ?_)) <;> repeat' first | with_reducible (first | exact bF _ _ | exact hbw | refine bA ?_ ?_ _ | refine bS ?_ ?_ _ | refine bD ?_ | refine below_drewN ?_ _) | (simp; done) | (simp; omega) | omega)); obtain ⟨v0, v1, v2, v3, v4, v5⟩ := hF1.cells; have v6 := later_box hb1 (w.heap.size + 1); (try simp [go_sem] at v6); have hS1 := hF1.ltS; have hB1 := hF1.mac.lt; have hne : B ≠ w1.heap.size := (by omega); have hne2 : w.heap.size ≠ w1.heap.size := (by omega))
    | go_in)
  all_goals go_ret
  all_goals exact ⟨rfl, hbw⟩
theorem load_told (B d s t : Nat) (c o n : Int) (r : Bool) (m : Mac) (hd : d < 11) (hs : s < 11) (fk fn fc : Int) (HA : Hid (m.reg s = ⟨fk, fn, fc⟩)) (ht : t < 8) (HR : Hid (reachF ⟨fk, fn, fc⟩ o = (((t : Nat) : Int), 0))) (hk : (fk == 2) = true) (w : World) (hM : MacAt w B m) :
    Calls Tryz.prog 118 #[.pointer (some ⟨B, 0, none⟩), .agg #[vI vK c, vI vK d, vI vK s, .bool r, vI vK o, vI vK n]] w fun e w' => e = .returned (vI vK 0) ∧ Kept B w w' ∧ MacAt w' B (m.putReg d ⟨1, m.word t, 0⟩) := by
  have hB := hM.lt
  have hF0 : Frm w.heap.size B c d s r o n m _ := Frm.start hM
  obtain ⟨p0, p1, p2, p3, p4, p5⟩ := hF0.cells
  obtain ⟨h0, h1, h2⟩ := hF0.mac.reg hs
  rw [HA.out] at h0 h1 h2
  have hs0 : (0 : Int) ≤ (s : Int) := by omega
  have hs1 : (s : Int) < 11 := by omega
  have hd0 : (0 : Int) ≤ (d : Int) := by omega
  have hd1 : (d : Int) < 11 := by omega
  have ht0 : (0 : Int) ≤ (t : Int) := by omega
  have ht1 : (t : Int) < 8 := by omega
  go_enter Tryz.func118, Tryz.ntmps118
  go_wp2_with fail
  go_region
  all_goals go_wp2_with (first
    | (go_at_call 156; refine (reach_any ⟨fk, fn, fc⟩ o _).mono ?_; rintro e w1 ⟨rfl, hb1⟩; rw [HR.out]; have hF1 : Frm w.heap.size B c d s r o n m w1 := Frm.later (by repeat' first | with_reducible (first | exact hF0 | exact hF1 | refine Frm.alloc ?_ _ | refine Frm.drew ?_) | with_reducible refine Frm.drewN ?_ _) hb1; have hbw : Below w.heap.size w w1 := (by ((refine Below.trans ?_ (hb1.mono ?_)) <;> repeat' first | with_reducible (first | exact bF _ _ | exact hbw | refine bA ?_ ?_ _ | refine bS ?_ ?_ _ | refine bD ?_ | refine below_drewN ?_ _) | (simp; done) | (simp; omega) | omega)); obtain ⟨v0, v1, v2, v3, v4, v5⟩ := hF1.cells; have v6 := later_box hb1 (w.heap.size + 1); (try simp [go_sem] at v6); have hS1 := hF1.ltS; have hB1 := hF1.mac.lt; have hne : B ≠ w1.heap.size := (by omega); have hne2 : w.heap.size ≠ w1.heap.size := (by omega); have q0 := hF1.mac.word ht)
    | (go_at_call 157; refine (mnum_any (m.word t) _).mono ?_; rintro e w2 ⟨rfl, hb2⟩; simp only [Val.v, numF]; obtain ⟨a0, a1, a2, z0, z1, z2, hl⟩ := zero_box hb2; have hF2 : Frm w.heap.size B c d s r o n m w2 := Frm.later (hF1.alloc _) hb2; obtain ⟨u0, u1, u2, u3, u4, u5⟩ := hF2.cells; obtain ⟨i0, i1, i2⟩ := hF2.mac.reg hd; have f0 := hF2.mac.frozen (2 + d * 3); have f1 := hF2.mac.frozen (2 + d * 3 + 1); have f2 := hF2.mac.frozen (2 + d * 3 + 2); have hS2 := hF2.ltS; have hB2 := hF2.mac.lt)
    | go_in)
  all_goals go_region
  all_goals go_wp2
  all_goals go_ret
  all_goals have HK : Kept B w w2 := kept_later (kept_alloc (kept_below hbw B) _) hb2
  all_goals have HM := hF2.mac
  all_goals exact ⟨rfl, (by repeat' first | with_reducible (first | exact HK | refine kept_drew ?_ | refine kept_set ?_ _ _ | refine kept_new ?_ _ _ ?_ | refine kept_alloc ?_ _) | ((try dsimp only); omega)), (by repeat' first | with_reducible (first | exact HM | refine MacAt.drew ?_ | refine MacAt.put3 ?_ hd _ _ _ | refine MacAt.slot3 ?_ ht _ _ _ | refine MacAt.cel1 ?_ hct _ | refine MacAt.off ?_ _ _ ?_ | refine MacAt.alloc ?_ _) | ((try dsimp only); omega))⟩
theorem load_slot (B d s t : Nat) (c o n : Int) (r : Bool) (m : Mac) (hd : d < 11) (hs : s < 11) (fk fn fc : Int) (HA : Hid (m.reg s = ⟨fk, fn, fc⟩)) (ht : t < 16) (HR : Hid (reachF ⟨fk, fn, fc⟩ o = (((t : Nat) : Int), 0))) (hk : (fk == 2) = false) (hk3 : (fk == 3) = true) (sk sn sc : Int) (HS : Hid (m.slot t = ⟨sk, sn, sc⟩)) (hsk : (sk == 0) = false) (w : World) (hM : MacAt w B m) :
    Calls Tryz.prog 118 #[.pointer (some ⟨B, 0, none⟩), .agg #[vI vK c, vI vK d, vI vK s, .bool r, vI vK o, vI vK n]] w fun e w' => e = .returned (vI vK 0) ∧ Kept B w w' ∧ MacAt w' B (m.putReg d ⟨sk, sn, sc⟩) := by
  have hB := hM.lt
  have hF0 : Frm w.heap.size B c d s r o n m _ := Frm.start hM
  obtain ⟨p0, p1, p2, p3, p4, p5⟩ := hF0.cells
  obtain ⟨h0, h1, h2⟩ := hF0.mac.reg hs
  rw [HA.out] at h0 h1 h2
  have hs0 : (0 : Int) ≤ (s : Int) := by omega
  have hs1 : (s : Int) < 11 := by omega
  have hd0 : (0 : Int) ≤ (d : Int) := by omega
  have hd1 : (d : Int) < 11 := by omega
  have ht0 : (0 : Int) ≤ (t : Int) := by omega
  have ht1 : (t : Int) < 16 := by omega
  go_enter Tryz.func118, Tryz.ntmps118
  go_wp2_with fail
  go_region
  all_goals go_wp2_with (first
    | (go_at_call 156; refine (reach_any ⟨fk, fn, fc⟩ o _).mono ?_; rintro e w1 ⟨rfl, hb1⟩; rw [HR.out]; have hF1 : Frm w.heap.size B c d s r o n m w1 := Frm.later (by repeat' first | with_reducible (first | exact hF0 | exact hF1 | refine Frm.alloc ?_ _ | refine Frm.drew ?_) | with_reducible refine Frm.drewN ?_ _) hb1; have hbw : Below w.heap.size w w1 := (by ((refine Below.trans ?_ (hb1.mono ?_)) <;> repeat' first | with_reducible (first | exact bF _ _ | exact hbw | refine bA ?_ ?_ _ | refine bS ?_ ?_ _ | refine bD ?_ | refine below_drewN ?_ _) | (simp; done) | (simp; omega) | omega)); obtain ⟨v0, v1, v2, v3, v4, v5⟩ := hF1.cells; have v6 := later_box hb1 (w.heap.size + 1); (try simp [go_sem] at v6); have hS1 := hF1.ltS; have hB1 := hF1.mac.lt; have hne : B ≠ w1.heap.size := (by omega); have hne2 : w.heap.size ≠ w1.heap.size := (by omega); obtain ⟨q0, q1, q2⟩ := hF1.mac.slot ht; rw [HS.out] at q0 q1 q2; obtain ⟨i0, i1, i2⟩ := hF1.mac.reg hd; have f0 := hF1.mac.frozen (2 + d * 3); have f1 := hF1.mac.frozen (2 + d * 3 + 1); have f2 := hF1.mac.frozen (2 + d * 3 + 2))
    | go_in)
  all_goals go_region
  all_goals go_wp2
  all_goals go_ret
  all_goals have HK : Kept B w w1 := kept_below hbw B
  all_goals have HM := hF1.mac
  all_goals exact ⟨rfl, (by repeat' first | with_reducible (first | exact HK | refine kept_drew ?_ | refine kept_set ?_ _ _ | refine kept_new ?_ _ _ ?_ | refine kept_alloc ?_ _) | ((try dsimp only); omega)), (by repeat' first | with_reducible (first | exact HM | refine MacAt.drew ?_ | refine MacAt.put3 ?_ hd _ _ _ | refine MacAt.slot3 ?_ ht _ _ _ | refine MacAt.cel1 ?_ hct _ | refine MacAt.off ?_ _ _ ?_ | refine MacAt.alloc ?_ _) | ((try dsimp only); omega))⟩
theorem load_empty (B d s t : Nat) (c o n : Int) (r : Bool) (m : Mac) (hd : d < 11) (hs : s < 11) (fk fn fc : Int) (HA : Hid (m.reg s = ⟨fk, fn, fc⟩)) (ht : t < 16) (HR : Hid (reachF ⟨fk, fn, fc⟩ o = (((t : Nat) : Int), 0))) (hk : (fk == 2) = false) (hk3 : (fk == 3) = true) (sk sn sc : Int) (HS : Hid (m.slot t = ⟨sk, sn, sc⟩)) (hsk : (sk == 0) = true) (w : World) (hM : MacAt w B m) :
    Calls Tryz.prog 118 #[.pointer (some ⟨B, 0, none⟩), .agg #[vI vK c, vI vK d, vI vK s, .bool r, vI vK o, vI vK n]] w fun e w' => e = .returned (vI vK 8) ∧ Below w.heap.size w w' := by
  have hB := hM.lt
  have hF0 : Frm w.heap.size B c d s r o n m _ := Frm.start hM
  obtain ⟨p0, p1, p2, p3, p4, p5⟩ := hF0.cells
  obtain ⟨h0, h1, h2⟩ := hF0.mac.reg hs
  rw [HA.out] at h0 h1 h2
  have hs0 : (0 : Int) ≤ (s : Int) := by omega
  have hs1 : (s : Int) < 11 := by omega
  have hd0 : (0 : Int) ≤ (d : Int) := by omega
  have hd1 : (d : Int) < 11 := by omega
  have ht0 : (0 : Int) ≤ (t : Int) := by omega
  have ht1 : (t : Int) < 16 := by omega
  go_enter Tryz.func118, Tryz.ntmps118
  go_wp2_with fail
  go_region
  all_goals go_wp2_with (first
    | (go_at_call 156; refine (reach_any ⟨fk, fn, fc⟩ o _).mono ?_; rintro e w1 ⟨rfl, hb1⟩; rw [HR.out]; have hF1 : Frm w.heap.size B c d s r o n m w1 := Frm.later (by repeat' first | with_reducible (first | exact hF0 | exact hF1 | refine Frm.alloc ?_ _ | refine Frm.drew ?_) | with_reducible refine Frm.drewN ?_ _) hb1; have hbw : Below w.heap.size w w1 := (by ((refine Below.trans ?_ (hb1.mono ?_)) <;> repeat' first | with_reducible (first | exact bF _ _ | exact hbw | refine bA ?_ ?_ _ | refine bS ?_ ?_ _ | refine bD ?_ | refine below_drewN ?_ _) | (simp; done) | (simp; omega) | omega)); obtain ⟨v0, v1, v2, v3, v4, v5⟩ := hF1.cells; have v6 := later_box hb1 (w.heap.size + 1); (try simp [go_sem] at v6); have hS1 := hF1.ltS; have hB1 := hF1.mac.lt; have hne : B ≠ w1.heap.size := (by omega); have hne2 : w.heap.size ≠ w1.heap.size := (by omega); obtain ⟨q0, q1, q2⟩ := hF1.mac.slot ht; rw [HS.out] at q0 q1 q2)
    | go_in)
  all_goals go_ret
  all_goals exact ⟨rfl, (by repeat' first | with_reducible (first | exact hbw | refine bA ?_ ?_ _ | refine bS ?_ ?_ _ | refine bD ?_) | ((try dsimp only); omega) | (simp; omega))⟩
theorem load_cell (B d s t fcn : Nat) (c o n : Int) (r : Bool) (m : Mac) (hd : d < 11) (hs : s < 11) (fk fn : Int) (HA : Hid (m.reg s = ⟨fk, fn, (fcn : Int)⟩)) (hfc : fcn < 4) (ht : t < 4) (HR : Hid (reachF ⟨fk, fn, fcn⟩ o = (((t : Nat) : Int), 0))) (hk : (fk == 2) = false) (hk3 : (fk == 3) = false) (hk4 : (fk == 4) = true) (w : World) (hM : MacAt w B m) :
    Calls Tryz.prog 118 #[.pointer (some ⟨B, 0, none⟩), .agg #[vI vK c, vI vK d, vI vK s, .bool r, vI vK o, vI vK n]] w fun e w' => e = .returned (vI vK 0) ∧ Kept B w w' ∧ MacAt w' B (m.putReg d ⟨1, m.cel (fcn * 4 + t), 0⟩) := by
  have hB := hM.lt
  have hF0 : Frm w.heap.size B c d s r o n m _ := Frm.start hM
  obtain ⟨p0, p1, p2, p3, p4, p5⟩ := hF0.cells
  obtain ⟨h0, h1, h2⟩ := hF0.mac.reg hs
  rw [HA.out] at h0 h1 h2
  have hs0 : (0 : Int) ≤ (s : Int) := by omega
  have hs1 : (s : Int) < 11 := by omega
  have hd0 : (0 : Int) ≤ (d : Int) := by omega
  have hd1 : (d : Int) < 11 := by omega
  have ht0 : (0 : Int) ≤ (t : Int) := by omega
  have ht1 : (t : Int) < 4 := by omega
  have hc0 : (0 : Int) ≤ (fcn : Int) := by omega
  have hc1 : (fcn : Int) < 4 := by omega
  go_enter Tryz.func118, Tryz.ntmps118
  go_wp2_with fail
  go_region
  all_goals go_wp2_with (first
    | (go_at_call 156; refine (reach_any ⟨fk, fn, (fcn : Int)⟩ o _).mono ?_; rintro e w1 ⟨rfl, hb1⟩; rw [HR.out]; have hF1 : Frm w.heap.size B c d s r o n m w1 := Frm.later (by repeat' first | with_reducible (first | exact hF0 | exact hF1 | refine Frm.alloc ?_ _ | refine Frm.drew ?_) | with_reducible refine Frm.drewN ?_ _) hb1; have hbw : Below w.heap.size w w1 := (by ((refine Below.trans ?_ (hb1.mono ?_)) <;> repeat' first | with_reducible (first | exact bF _ _ | exact hbw | refine bA ?_ ?_ _ | refine bS ?_ ?_ _ | refine bD ?_ | refine below_drewN ?_ _) | (simp; done) | (simp; omega) | omega)); obtain ⟨v0, v1, v2, v3, v4, v5⟩ := hF1.cells; have v6 := later_box hb1 (w.heap.size + 1); (try simp [go_sem] at v6); have hS1 := hF1.ltS; have hB1 := hF1.mac.lt; have hne : B ≠ w1.heap.size := (by omega); have hne2 : w.heap.size ≠ w1.heap.size := (by omega); have q0 : w1.cell? ⟨B, 91 + fcn * 4 + t, none⟩ = some (vI vK (m.cel (fcn * 4 + t))) := (by rw [Nat.add_assoc]; exact hF1.mac.cel (d := fcn * 4 + t) (by omega)); have q1 : w1.cell? ⟨w.heap.size + 1, 2, none⟩ = some (vI vK fcn) := (by rw [v6.1]; rfl))
    | (go_at_call 157; fail)
    | go_in)
  all_goals go_region_held3 (fun w' => w'.cell? ⟨w.heap.size + 1, 2, none⟩ = some (vI vK fcn) ∧ w'.cell? ⟨B, 91 + fcn * 4 + t, none⟩ = some (vI vK (m.cel (fcn * 4 + t)))) (first | (simp [go_sem]; done) | (simp [go_sem, *]; done) | go_keep) (first
    | (go_at_call 157; go_must (refine (mnum_any (m.cel (fcn * 4 + t)) _).mono ?_; rintro e w2 ⟨rfl, hb2⟩; simp only [Val.v, numF]; have hb2 := drew_below hb2; have hb12 := below_zero hb2; have y0 : w2.cell? ⟨w.heap.size + 1, 2, none⟩ = some (vI vK fcn) := (hb12.cell (p := ⟨w.heap.size + 1, 2, none⟩) v6.2.2).trans q1; have y1 : w2.cell? ⟨B, 91 + fcn * 4 + t, none⟩ = some (vI vK (m.cel (fcn * 4 + t))) := (hb12.cell (p := ⟨B, 91 + fcn * 4 + t, none⟩) hB1).trans q0; obtain ⟨a0, a1, a2, z0, z1, z2, hl⟩ := zero_box hb2; have hF2 : Frm w.heap.size B c d s r o n m w2 := Frm.later (hF1.alloc _) hb2; obtain ⟨u0, u1, u2, u3, u4, u5⟩ := hF2.cells; obtain ⟨i0, i1, i2⟩ := hF2.mac.reg hd; have f0 := hF2.mac.frozen (2 + d * 3); have f1 := hF2.mac.frozen (2 + d * 3 + 1); have f2 := hF2.mac.frozen (2 + d * 3 + 2); have hS2 := hF2.ltS; have hB2 := hF2.mac.lt)))
  all_goals go_wp2_with fail
  all_goals go_region
  all_goals go_wp2
  all_goals go_ret
  all_goals have HK : Kept B w w2 := kept_later (kept_below hbw B) hb12
  all_goals have HM := hF2.mac
  all_goals exact ⟨rfl, (by repeat' first | with_reducible (first | exact HK | refine kept_drew ?_ | refine kept_set ?_ _ _ | refine kept_new ?_ _ _ ?_ | refine kept_alloc ?_ _) | ((try dsimp only); omega)), (by repeat' first | with_reducible (first | exact HM | refine MacAt.drew ?_ | refine MacAt.put3 ?_ hd _ _ _ | refine MacAt.slot3 ?_ ht _ _ _ | refine MacAt.cel1 ?_ hct _ | refine MacAt.off ?_ _ _ ?_ | refine MacAt.alloc ?_ _) | ((try dsimp only); omega))⟩
end Go.Proofs.YtednmkhdehlojaaGreatDoor
