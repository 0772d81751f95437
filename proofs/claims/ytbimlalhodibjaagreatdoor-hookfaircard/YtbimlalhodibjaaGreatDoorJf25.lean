/-
 What Event and Attach leave of a desk that is right: it is right again. Conditions: said. What lies in memory while HookFair counts: three numbers each of what hooks may, spent, at most spent, what came, what went; and the desk. Conditions: none. What HookFair counts while it goes through what came of a round. Conditions: said. What stands between semicolons, and between blanks, in a text that was put together of clean words: those words. A program as text: what asm.Write returns to a list of steps in memory: the steps' texts, with a semicolon and a blank between, or what op.Check returned; the world below is as it was. Conditions: the list's cells hold steps with numbers of 64 bits, the tables lie in memory. The words of a step that nothing is wrong with: each is clean, and names, registers, numbers and places are read as what they were written of. The text of a program that nothing is wrong with z2s that program. The steps that a written program's text z2s: those that were written. What asm.Read returns to the text of a program that nothing is wrong with: that program. The numbers of a step that is told fit in 64 bits. What errors.As answers at a target that is an *api.Errno: nil: false; an Errno, or an *At around one: true, and the target gets it; four new blocks. Conditions: the library's variable errorType holds the handle of the type error, and the target's cell is there and not frozen. What api.Tell, plain.Place and the statements' own 'is' answer at nil, at an Errno, and at an *At around an Errno; the world below is as it was. Conditions: the library's variable errorType holds the handle of the type error; the At's cells are there. gatehousekeep.let and gatehousekeep.runs are true. Conditions: the library's tables are as they are laid. What package hook's New returns where each number is from 1 to 1000: a desk where nothing is put in and nothing waits. Conditions: said. What a chain's Cells returns where the program is there. Conditions: the desk lies in memory. The program that gatehousekeep.hooked reads, and what comes of it on a desk, on plain numbers. Conditions: the library's tables are as they are laid. gatehousekeep.hooked is true. Conditions: the library's tables are as they are laid.
-/
import Derived.Test.YtbimlalhodibjaaGreatDoorJf23
import Derived.Test.YtbimlalhodibjaaGreatDoorJf24
import Derived.Test.YtbimlalhodibjaaGreatDoorJf4
import Derived.Test.YtbimlalhodibjaaGreatDoorJf2
import Derived.Test.YtbimlalhodibjaaGreatDoorRows
import Derived.WalkKit
import Derived.ProofKit
import Derived.LaidEql
import Derived.Stop.Asserts
import Derived.RowKitTokens
import Derived.Deep.QuietTactic
import Derived.BigQuiet
import Derived.WalkLawsBesides
import Derived.Test.YtbimlalhodibjaaGreatDoorJf22
import Derived.Test.YtbimlalhodibjaaGreatDoorJf9
import Derived.RegionTactic
set_option maxHeartbeats 40000000
open Go.Value renaming int → A
open Go.IntKind renaming i64 → E
open Go.RowKit.Below renaming alloc → bA, setCell → bS, drew → bD, refl → bF
set_option maxRecDepth 1000000
set_option linter.defProp false
set_option linter.unusedVariables false
set_option linter.unusedSimpArgs false
open Go.Ending renaming returned → rT
open Go.Value renaming pointer → pT
open Go.Obj renaming cells → cT
open Go.Proofs.Tryz renaming prog → tP
namespace Go.Proofs.YtbimlalhodibjaaGreatDoor
section
open Go.ChangeShapes Go.WideShapes Go.ChangeAt Go.RowKit
theorem DOk.event {w w' : World} {B k : Nat} {d : Dsk} {M : Int} {T : Nat -> Int} (h : DOk w B d M) (hk : k < 3) (h20 : (d.g k).evs.length < 20) (hT : ∀ i, i < 8 -> In64 (T i)) (hkp : Kept B w w') (hD : z0k w' B (d.put k { d.g k with evs := (d.g k).evs ++ [T] })) : DOk w' B (d.put k { d.g k with evs := (d.g k).evs ++ [T] }) M := by
 refine ⟨hD, ?_, ?_, ?_, ?_, ?_, ?_, ?_, ?_, ?_, ?_, h.ran0, h.ran1⟩ <;> intro j hj <;> rw [z3r] <;> split
 ·exact fun p hp => (h.ps k hk p hp).kept hkp
 ·exact fun p hp => (h.ps j hj p hp).kept hkp
 ·exact h.few k hk
 ·exact h.few j hj
 ·show ((d.g k).evs ++ [T]).length <= 20; rw [List.length_append, List.length_singleton]; omega
 ·exact h.evs j hj
 ·intro T' hT'
  rcases List.mem_append.1 hT' with hT' | hT'
  ·exact h.told k hk T' hT'
  ·rw [List.mem_singleton.1 hT']; exact hT
 ·exact h.told j hj
 ·exact h.may0 k hk
 ·exact h.may0 j hj
 ·exact h.may1 k hk
 ·exact h.may1 j hj
 ·exact h.left0 k hk
 ·exact h.left0 j hj
 ·exact h.left1 k hk
 ·exact h.left1 j hj
 ·exact h.last0 k hk
 ·exact h.last0 j hj
 ·exact h.last1 k hk
 ·exact h.last1 j hj
theorem ins_mem {ps : List Pg} {i : Nat} {q p : Pg} (h : p ∈ Pg.ins ps i q) : p = q \/ p ∈ ps := by
 unfold Pg.ins at h
 rcases List.mem_append.1 h with h | h
 ·exact Or.inr (List.mem_of_mem_take h)
 ·rcases List.mem_cons.1 h with h | h
  ·exact Or.inl h
  ·exact Or.inr (List.mem_of_mem_drop h)
theorem DOk.attach {w w' : World} {B k i : Nat} {d : Dsk} {M : Int} {q : Pg} (h : DOk w B d M) (hk : k < 3) (h7 : (d.g k).ps.length <= 7) (hi : i <= (d.g k).ps.length) (hq : PgOk w' B q) (hkp : Kept B w w') (hD : z0k w' B (d.put k { d.g k with ps := Pg.ins (d.g k).ps i q, last := (d.g k).last + 1 })) : DOk w' B (d.put k { d.g k with ps := Pg.ins (d.g k).ps i q, last := (d.g k).last + 1 }) (M + 1) := by
 have hr : (d.put k { d.g k with ps := Pg.ins (d.g k).ps i q, last := (d.g k).last + 1 }).ran = d.ran := rfl
 refine ⟨hD, ?_, ?_, ?_, ?_, ?_, ?_, ?_, ?_, ?_, ?_, h.ran0, by rw [hr]; have := h.ran1; omega⟩ <;> intro j hj <;> rw [z3r] <;> split
 ·intro p hp
  rcases ins_mem hp with rfl | hp
  ·exact hq
  ·exact (h.ps k hk p hp).kept hkp
 ·exact fun p hp => (h.ps j hj p hp).kept hkp
 ·show (Pg.ins (d.g k).ps i q).length <= 8; rw [zD0 _ _ hi]; omega
 ·exact h.few j hj
 ·exact h.evs k hk
 ·exact h.evs j hj
 ·exact h.told k hk
 ·exact h.told j hj
 ·exact h.may0 k hk
 ·exact h.may0 j hj
 ·exact h.may1 k hk
 ·exact h.may1 j hj
 ·exact h.left0 k hk
 ·exact h.left0 j hj
 ·exact h.left1 k hk
 ·exact h.left1 j hj
 ·show 0 <= (d.g k).last + 1; have := h.last0 k hk; omega
 ·exact h.last0 j hj
 ·show (d.g k).last + 1 <= M + 1; have := h.last1 k hk; omega
 ·have := h.last1 j hj; omega
def zVa (d : Dsk) (k : Nat) (xs : List St) (rank : Int) (d' : Dsk) : Prop :=
 (¬ (Lets xs /\ (d.g k).ps.length <= 7) /\ d' = d) \/ (Lets xs /\ (d.g k).ps.length <= 7 /\ ∃ q : Pg, q.id = (d.g k).last + 1 /\ q.rank = rank /\ q.xs = xs /\ q.tab = (fun _ => 0) /\ d' = d.put k { d.g k with ps := Pg.ins (d.g k).ps ((d.g k).ps.findIdx fun p => decide (rank < p.rank)) q, last := (d.g k).last + 1 })
theorem zJa (B k : Nat) (hk : k < 3) (d : Dsk) (M : Int) (l : Value) (xs : List St) (rank : Int) (w : World) (HD : Hid (DOk w B d M)) (hM0 : 0 <= M) (hM : M <= 900000) (HL : Hid (LsAt w l xs)) (HB : Hid (1 <= xs.length -> ∀ a n c, l = .slice (some a) n c -> a.block ≠ B)) :
  Calls tP 18 #[pT (some ⟨B, k * 317, none⟩), l, A E rank] w fun e w' => ∃ v, e = rT v /\ (∃ x y, v = .tuple #[x, y]) /\ Kept B w w' /\ ∃ d', DOk w' B d' (M + 1) /\ zVa d k xs rank d' := by
 have hD := HD.out.at_
 by_cases hL : Lets xs
 ·by_cases h7 : (d.g k).ps.length <= 7
  ·refine (zD1 B k (d.g k).ps.length hk d l xs rank w hD rfl h7 HL hL HD.out.one (HB.out hL.1) (by have := HD.out.last0 k hk; omega) (by have := HD.out.last1 k hk; omega)).mono fun e w' h => ?_
   obtain ⟨rfl, h1, q, q1, q2, q3, q4, q5, q6⟩ := h
   exact ⟨_, rfl, ⟨_, _, rfl⟩, h1, _, HD.out.attach hk h7 List.findIdx_le_length q5 h1 q6, Or.inr ⟨hL, h7, q, q1, q2, q3, q4, rfl⟩⟩
  ·have h8 : (d.g k).ps.length = 8 := by have := HD.out.few k hk; omega
   refine (zGp B k 8 hk d l xs rank w hD HL hL h8).mono fun e w' h => ?_
   obtain ⟨rfl, h1⟩ := h
   exact ⟨_, rfl, ⟨_, _, rfl⟩, z0e h1 B, d, (HD.out.later h1).mono (by omega), Or.inl ⟨fun z => h7 z.2, rfl⟩⟩
 ·refine (zJ9 B k 0 hk d l xs rank w hD HL hL).mono fun e w' h => ?_
  obtain ⟨⟨t, x, rfl⟩, h1⟩ := h
  exact ⟨_, rfl, ⟨_, _, rfl⟩, z0e h1 B, d, (HD.out.later h1).mono (by omega), Or.inl ⟨fun z => hL z.1, rfl⟩⟩
theorem Kept.below {B : Nat} {w0 w w' : World} (h : Below w0.heap.size w0 w) (hk : Kept B w w') (hB : w0.heap.size <= B) : Below w0.heap.size w0 w' :=
 ⟨hk.os.trans h.os, hk.tape.trans h.tape, hk.output.trans h.output, Nat.le_trans h.size hk.size, fun k hk' => (hk.block k (Nat.lt_of_lt_of_le hk' h.size) fun e => by have := Option.some.inj e; omega).trans (h.block k hk')⟩
theorem zVa.same {d d' : Dsk} {k : Nat} {xs : List St} {rank : Int} (h : zVa d k xs rank d') : ∀ j, (d'.g j).evs = (d.g j).evs /\ (d'.g j).may = (d.g j).may /\ (d'.g j).left = (d.g j).left := by
 intro j
 rcases h with ⟨-, rfl⟩ | ⟨-, -, q, -, -, -, -, rfl⟩
 ·exact ⟨rfl, rfl, rfl⟩
 ·rw [z3r]
  split
  ·rename_i e; rw [e]; exact ⟨rfl, rfl, rfl⟩
  ·exact ⟨rfl, rfl, rfl⟩
end
section
open Go.ChangeShapes Go.WideShapes Go.ChangeAt Go.RowKit
attribute [local simp] z00 z0d z07
def arr3 (f : Nat -> Int) : Array Value := #[A E (f 0), A E (f 1), A E (f 2)]
def bar3 (f : Nat -> Bool) : Array Value := #[.bool (f 0), .bool (f 1), .bool (f 2)]
def up3 {α : Type} (f : Nat -> α) (k : Nat) (x : α) : Nat -> α := fun i => if i = k then x else f i
theorem zV2 (f : Nat -> Int) {k : Nat} (hk : k < 3) : (arr3 f)[k]? = some (A E (f k)) := by
 rcases (by omega : k = 0 \/ k = 1 \/ k = 2) with rfl | rfl | rfl <;> rfl
theorem zUz (f : Nat -> Bool) {k : Nat} (hk : k < 3) : (bar3 f)[k]? = some (.bool (f k)) := by
 rcases (by omega : k = 0 \/ k = 1 \/ k = 2) with rfl | rfl | rfl <;> rfl
theorem z84 (f : Nat -> Int) {k : Nat} (hk : k < 3) (x : Int) : (arr3 f).setIfInBounds k (A E x) = arr3 (up3 f k x) := by
 rcases (by omega : k = 0 \/ k = 1 \/ k = 2) with rfl | rfl | rfl <;> rfl
theorem zUy (f : Nat -> Bool) {k : Nat} (hk : k < 3) (x : Bool) : (bar3 f).setIfInBounds k (.bool x) = bar3 (up3 f k x) := by
 rcases (by omega : k = 0 \/ k = 1 \/ k = 2) with rfl | rfl | rfl <;> rfl
theorem DOk.set3 {w : World} {B n k : Nat} {d : Dsk} {M : Int} {cs : Array Value} {t : TypeId} (h : DOk w B d M) (hn : n ≠ B) (hb : w.heap[n]? = some (cT cs t (0, 0))) (hs : cs.size <= 5) (v : Value) : DOk (w.setCell ⟨n, k, none⟩ v) B d M := by
 refine ⟨FnAt.block h.at_ (heap_setCell_other w ⟨n, k, none⟩ B v (fun e => hn e.symm)), fun j hj p hp => ?_, h.few, h.evs, h.told, h.may0, h.may1, h.left0, h.left1, h.last0, h.last1, h.ran0, h.ran1⟩
 have q := h.ps j hj p hp
 obtain ⟨bk, cap, e, h1, h2, h3⟩ := q.lies
 have hne : bk ≠ n := fun e => by
  have h5 := (h3 0 q.some).2.2.2.2.2
  rw [e, cell_of_row w n _ cs t (0, 0) hb, Array.getElem?_eq_none (by omega)] at h5
  cases h5
 exact ⟨⟨bk, cap, e, by rw [z07]; exact h1, h2, z33 h3 (heap_setCell_other w ⟨n, k, none⟩ bk v hne)⟩, q.some, q.few, q.right, q.nums, q.tab, q.goes⟩
structure FSt (w : World) (n bm B : Nat) (mv sp mo ca we : Nat -> Int) (al : Nat -> Bool) (d : Dsk) (M : Int) (wr : World) : Prop where
 bel : Below w.heap.size w wr
 may : wr.heap[bm]? = some (cT (arr3 mv) 22 (0, 0))
 sp : wr.heap[n]? = some (cT (arr3 sp) 22 (0, 0))
 mo : wr.heap[n + 1]? = some (cT (arr3 mo) 22 (0, 0))
 ca : wr.heap[n + 1 + 1]? = some (cT (arr3 ca) 22 (0, 0))
 we : wr.heap[n + 1 + 1 + 1]? = some (cT (arr3 we) 22 (0, 0))
 al : wr.heap[n + 1 + 1 + 1 + 1]? = some (cT (bar3 al) 65 (0, 0))
 dsk : DOk wr B d M
 o1 : w.heap.size <= bm
 o2 : bm < B
 o3 : B < n
section
variable {w : World} {n bm B : Nat} {mv sp mo ca we : Nat -> Int} {al : Nat -> Bool} {d : Dsk} {M : Int} {wr : World}
theorem FSt.size (h : FSt w n bm B mv sp mo ca we al d M wr) : n + 1 + 1 + 1 + 1 < wr.heap.size := (Array.getElem?_eq_some_iff.1 h.al).1
theorem FSt.later {wr' : World} (h : FSt w n bm B mv sp mo ca we al d M wr) (hb : Below wr.heap.size wr wr') : FSt w n bm B mv sp mo ca we al d M wr' := by
 have hs := h.size
 have o2 := h.o2
 have o3 := h.o3
 exact ⟨h.bel.trans (hb.mono h.bel.size), (hb.block _ (by omega)).trans h.may, (hb.block _ (by omega)).trans h.sp, (hb.block _ (by omega)).trans h.mo, (hb.block _ (by omega)).trans h.ca, (hb.block _ (by omega)).trans h.we, (hb.block _ (by omega)).trans h.al, h.dsk.later hb, h.o1, h.o2, h.o3⟩
theorem FSt.desk {wr' : World} {d' : Dsk} {M' : Int} (h : FSt w n bm B mv sp mo ca we al d M wr) (hk : Kept B wr wr') (hd : DOk wr' B d' M') : FSt w n bm B mv sp mo ca we al d' M' wr' := by
 have hs := h.size
 have o2 := h.o2
 have o3 := h.o3
 have hx : ∀ i, i < wr.heap.size -> i ≠ B -> wr'.heap[i]? = wr.heap[i]? := fun i h1 h2 => hk.block i h1 fun e => h2 (Option.some.inj e)
 exact ⟨Kept.below h.bel hk (by have := h.o1; omega), (hx _ (by omega) (by omega)).trans h.may, (hx _ (by omega) (by omega)).trans h.sp, (hx _ (by omega) (by omega)).trans h.mo, (hx _ (by omega) (by omega)).trans h.ca, (hx _ (by omega) (by omega)).trans h.we, (hx _ (by omega) (by omega)).trans h.al, hd, h.o1, h.o2, h.o3⟩
theorem FSt.mono {M' : Int} (h : FSt w n bm B mv sp mo ca we al d M wr) (hm : M <= M') : FSt w n bm B mv sp mo ca we al d M' wr := ⟨h.bel, h.may, h.sp, h.mo, h.ca, h.we, h.al, h.dsk.mono hm, h.o1, h.o2, h.o3⟩
theorem FSt.setSp (h : FSt w n bm B mv sp mo ca we al d M wr) {k : Nat} (hk : k < 3) (x : Int) : FSt w n bm B mv (up3 sp k x) mo ca we al d M (wr.setCell ⟨n, k, none⟩ (A E x)) := by
 have o1 := h.o1; have o2 := h.o2; have o3 := h.o3
 have hx : ∀ i, i ≠ n -> (wr.setCell ⟨n, k, none⟩ (A E x)).heap[i]? = wr.heap[i]? := fun i e => heap_setCell_other wr ⟨n, k, none⟩ i _ e
 exact ⟨h.bel.setCell (by show w.heap.size <= n; omega) _, (hx _ (by omega)).trans h.may, by rw [<- z84 sp hk]; exact heap_setCell_same wr n k _ _ _ h.sp, (hx _ (by omega)).trans h.mo, (hx _ (by omega)).trans h.ca, (hx _ (by omega)).trans h.we, (hx _ (by omega)).trans h.al, h.dsk.set3 (by omega) h.sp (show 3 <= 5 by decide) _, o1, o2, o3⟩
theorem FSt.setMo (h : FSt w n bm B mv sp mo ca we al d M wr) {k : Nat} (hk : k < 3) (x : Int) : FSt w n bm B mv sp (up3 mo k x) ca we al d M (wr.setCell ⟨n + 1, k, none⟩ (A E x)) := by
 have o1 := h.o1; have o2 := h.o2; have o3 := h.o3
 have hx : ∀ i, i ≠ n + 1 -> (wr.setCell ⟨n + 1, k, none⟩ (A E x)).heap[i]? = wr.heap[i]? := fun i e => heap_setCell_other wr ⟨n + 1, k, none⟩ i _ e
 exact ⟨h.bel.setCell (by show w.heap.size <= n + 1; omega) _, (hx _ (by omega)).trans h.may, (hx _ (by omega)).trans h.sp, by rw [<- z84 mo hk]; exact heap_setCell_same wr (n + 1) k _ _ _ h.mo, (hx _ (by omega)).trans h.ca, (hx _ (by omega)).trans h.we, (hx _ (by omega)).trans h.al, h.dsk.set3 (by omega) h.mo (show 3 <= 5 by decide) _, o1, o2, o3⟩
theorem FSt.setCa (h : FSt w n bm B mv sp mo ca we al d M wr) {k : Nat} (hk : k < 3) (x : Int) : FSt w n bm B mv sp mo (up3 ca k x) we al d M (wr.setCell ⟨n + 1 + 1, k, none⟩ (A E x)) := by
 have o1 := h.o1; have o2 := h.o2; have o3 := h.o3
 have hx : ∀ i, i ≠ n + 1 + 1 -> (wr.setCell ⟨n + 1 + 1, k, none⟩ (A E x)).heap[i]? = wr.heap[i]? := fun i e => heap_setCell_other wr ⟨n + 1 + 1, k, none⟩ i _ e
 exact ⟨h.bel.setCell (by show w.heap.size <= n + 1 + 1; omega) _, (hx _ (by omega)).trans h.may, (hx _ (by omega)).trans h.sp, (hx _ (by omega)).trans h.mo, by rw [<- z84 ca hk]; exact heap_setCell_same wr (n + 1 + 1) k _ _ _ h.ca, (hx _ (by omega)).trans h.we, (hx _ (by omega)).trans h.al, h.dsk.set3 (by omega) h.ca (show 3 <= 5 by decide) _, o1, o2, o3⟩
theorem FSt.setWe (h : FSt w n bm B mv sp mo ca we al d M wr) {k : Nat} (hk : k < 3) (x : Int) : FSt w n bm B mv sp mo ca (up3 we k x) al d M (wr.setCell ⟨n + 1 + 1 + 1, k, none⟩ (A E x)) := by
 have o1 := h.o1; have o2 := h.o2; have o3 := h.o3
 have hx : ∀ i, i ≠ n + 1 + 1 + 1 -> (wr.setCell ⟨n + 1 + 1 + 1, k, none⟩ (A E x)).heap[i]? = wr.heap[i]? := fun i e => heap_setCell_other wr ⟨n + 1 + 1 + 1, k, none⟩ i _ e
 exact ⟨h.bel.setCell (by show w.heap.size <= n + 1 + 1 + 1; omega) _, (hx _ (by omega)).trans h.may, (hx _ (by omega)).trans h.sp, (hx _ (by omega)).trans h.mo, (hx _ (by omega)).trans h.ca, by rw [<- z84 we hk]; exact heap_setCell_same wr (n + 1 + 1 + 1) k _ _ _ h.we, (hx _ (by omega)).trans h.al, h.dsk.set3 (by omega) h.we (show 3 <= 5 by decide) _, o1, o2, o3⟩
theorem FSt.setAl (h : FSt w n bm B mv sp mo ca we al d M wr) {k : Nat} (hk : k < 3) (x : Bool) : FSt w n bm B mv sp mo ca we (up3 al k x) d M (wr.setCell ⟨n + 1 + 1 + 1 + 1, k, none⟩ (.bool x)) := by
 have o1 := h.o1; have o2 := h.o2; have o3 := h.o3
 have hx : ∀ i, i ≠ n + 1 + 1 + 1 + 1 -> (wr.setCell ⟨n + 1 + 1 + 1 + 1, k, none⟩ (.bool x)).heap[i]? = wr.heap[i]? := fun i e => heap_setCell_other wr ⟨n + 1 + 1 + 1 + 1, k, none⟩ i _ e
 exact ⟨h.bel.setCell (by show w.heap.size <= n + 1 + 1 + 1 + 1; omega) _, (hx _ (by omega)).trans h.may, (hx _ (by omega)).trans h.sp, (hx _ (by omega)).trans h.mo, (hx _ (by omega)).trans h.ca, (hx _ (by omega)).trans h.we, by rw [<- zUy al hk]; exact heap_setCell_same wr (n + 1 + 1 + 1 + 1) k _ _ _ h.al, h.dsk.set3 (by omega) h.al (show 3 <= 5 by decide) _, o1, o2, o3⟩
theorem z3u {b k : Nat} {f : Nat -> Int} (hk : k < 3) (h : wr.heap[b]? = some (cT (arr3 f) 22 (0, 0))) : wr.cell? ⟨b, k, none⟩ = some (A E (f k)) /\ wr.frozen? ⟨b, k, none⟩ = false := by
 refine ⟨?_, by simp [World.frozen?, h]⟩
 rw [cell_of_row wr b k _ _ _ h]
 exact zV2 f hk
theorem zFp {b k : Nat} {f : Nat -> Bool} (hk : k < 3) (h : wr.heap[b]? = some (cT (bar3 f) 65 (0, 0))) : wr.cell? ⟨b, k, none⟩ = some (.bool (f k)) /\ wr.frozen? ⟨b, k, none⟩ = false := by
 refine ⟨?_, by simp [World.frozen?, h]⟩
 rw [cell_of_row wr b k _ _ _ h]
 exact zUz f hk
theorem FSt.start {w2 : World} (hb : Below w.heap.size w w2) (hm : w2.heap[w.heap.size]? = some (cT (arr3 mv) 22 (0, 0))) (hO : DOk w2 B d 0) (h1 : w.heap.size < B) : FSt w w2.heap.size w.heap.size B mv (fun _ => 0) (fun _ => 0) (fun _ => 0) (fun _ => 0) (fun _ => true) d 0 (((((w2.alloc (cT #[A E 0, A E 0, A E 0] 22)).alloc (cT #[A E 0, A E 0, A E 0] 22)).alloc (cT #[A E 0, A E 0, A E 0] 22)).alloc (cT #[A E 0, A E 0, A E 0] 22)).alloc (cT #[.bool true, .bool true, .bool true] 65)) := by
 have a0 := heap_alloc_new w2 (cT #[A E 0, A E 0, A E 0] 22)
 have b0 : Below w2.heap.size w2 (w2.alloc (cT #[A E 0, A E 0, A E 0] 22)) := (bF _ _).alloc (Nat.le_refl _) _
 have s0 : (w2.alloc (cT #[A E 0, A E 0, A E 0] 22)).heap.size = w2.heap.size + 1 := by simp
 generalize w2.alloc (cT #[A E 0, A E 0, A E 0] 22) = v0 at a0 b0 s0 ⊢
 have a1 := heap_alloc_new v0 (cT #[A E 0, A E 0, A E 0] 22)
 have b1 : Below v0.heap.size v0 (v0.alloc (cT #[A E 0, A E 0, A E 0] 22)) := (bF _ _).alloc (Nat.le_refl _) _
 have s1 : (v0.alloc (cT #[A E 0, A E 0, A E 0] 22)).heap.size = v0.heap.size + 1 := by simp
 generalize v0.alloc (cT #[A E 0, A E 0, A E 0] 22) = v1 at a1 b1 s1 ⊢
 have a2 := heap_alloc_new v1 (cT #[A E 0, A E 0, A E 0] 22)
 have b2 : Below v1.heap.size v1 (v1.alloc (cT #[A E 0, A E 0, A E 0] 22)) := (bF _ _).alloc (Nat.le_refl _) _
 have s2 : (v1.alloc (cT #[A E 0, A E 0, A E 0] 22)).heap.size = v1.heap.size + 1 := by simp
 generalize v1.alloc (cT #[A E 0, A E 0, A E 0] 22) = v2 at a2 b2 s2 ⊢
 have a3 := heap_alloc_new v2 (cT #[A E 0, A E 0, A E 0] 22)
 have b3 : Below v2.heap.size v2 (v2.alloc (cT #[A E 0, A E 0, A E 0] 22)) := (bF _ _).alloc (Nat.le_refl _) _
 have s3 : (v2.alloc (cT #[A E 0, A E 0, A E 0] 22)).heap.size = v2.heap.size + 1 := by simp
 generalize v2.alloc (cT #[A E 0, A E 0, A E 0] 22) = v3 at a3 b3 s3 ⊢
 have a4 := heap_alloc_new v3 (cT #[.bool true, .bool true, .bool true] 65)
 have b4 : Below v3.heap.size v3 (v3.alloc (cT #[.bool true, .bool true, .bool true] 65)) := (bF _ _).alloc (Nat.le_refl _) _
 generalize v3.alloc (cT #[.bool true, .bool true, .bool true] 65) = v4 at a4 b4 ⊢
 have hsb := hb.size
 have hB := hO.at_.lt
 have hall : Below w2.heap.size w2 v4 := (((b0.trans (b1.mono (by omega))).trans (b2.mono (by omega))).trans (b3.mono (by omega))).trans (b4.mono (by omega))
 rw [s0] at a1; rw [s1, s0] at a2; rw [s2, s1, s0] at a3; rw [s3, s2, s1, s0] at a4
 refine ⟨hb.trans (hall.mono hsb), (hall.block _ (by omega)).trans hm, ?_, ?_, ?_, ?_, a4, hO.later hall, Nat.le_refl _, h1, hB⟩
 ·exact (b4.block _ (by omega)).trans ((b3.block _ (by omega)).trans ((b2.block _ (by omega)).trans ((b1.block _ (by omega)).trans a0)))
 ·exact (b4.block _ (by omega)).trans ((b3.block _ (by omega)).trans ((b2.block _ (by omega)).trans a1))
 ·exact (b4.block _ (by omega)).trans ((b3.block _ (by omega)).trans a2)
 ·exact (b4.block _ (by omega)).trans a3
end
end
section
open Go.ChangeShapes Go.WideShapes Go.ChangeAt Go.RowKit
attribute [local simp] z00 z0d z07
theorem zDd : ∀ (ds : List Dn) (q j : Nat) (x : Dn), ds[q]? = some x -> j < 5 -> (z2k ds)[q * 5 + j]? = x.cells[j]?
 | [], q, j, x, h, _ => by simp at h
 | y :: ds, 0, j, x, h, hj => by
  have e : y = x := by simpa using h
  subst e
  have e1 : z2k (y :: ds) = y.cells ++ z2k ds := rfl
  rw [e1, Nat.zero_mul, Nat.zero_add, List.getElem?_append_left (by show j < 5; exact hj)]
 | y :: ds, q + 1, j, x, h, hj => by
  have e1 : z2k (y :: ds) = y.cells ++ z2k ds := rfl
  have hl : y.cells.length = 5 := rfl
  rw [e1, List.getElem?_append_right (by omega), hl, show (q + 1) * 5 + j - 5 = q * 5 + j by omega]
  exact zDd ds q j x (by simpa using h) hj
theorem zUk {w : World} {base gd cap q : Nat} {ds : List Dn} {x : Dn} (h : w.ownsRow base 77 5 (.slice (some ⟨gd, 0, none⟩) ds.length cap) ds.length (z2k ds)) (hq : ds[q]? = some x) : w.rangeAt gd (q * 5) x.cells := fun j v hv => by
 have hj : j < 5 := by have := (List.getElem?_eq_some_iff.1 hv).1; simpa [Dn.cells] using this
 have hl := (List.getElem?_eq_some_iff.1 hq).1
 rw [World.ownsRow.cellAt h (q * 5 + j) (by omega), zDd ds q j x hq hj]
 exact hv
theorem zPs (k : Nat) : ∀ l : List (Nat × Sd), (ofH k l).length <= l.length
 | [] => Nat.le_refl _
 | x :: l => by
  have := zPs k l
  rw [ofH]
  split
  ·rw [List.length_cons, List.length_cons]; omega
  ·rw [List.length_cons]; omega
def dnL (ds : List Dn) : List (Nat × Sd) := ds.map fun x => (x.k, x.s)
theorem zF0 {ds : List Dn} {q : Nat} {x : Dn} (h : ds[q]? = some x) : (dnL ds).take (q + 1) = (dnL ds).take q ++ [(x.k, x.s)] := by
 rw [List.take_add_one]
 unfold dnL
 rw [List.getElem?_map, h]
 rfl
theorem zIv (k j : Nat) (s : Sd) : ofH k [(j, s)] = if j = k then [s] else [] := by
 rw [ofH, ofH]
theorem rs_sp (sp : Nat -> Int) {ds : List Dn} {q : Nat} {x : Dn} (h : ds[q]? = some x) : (fun k => sp k + z1r (ofH k ((dnL ds).take (q + 1)))) = up3 (fun k => sp k + z1r (ofH k ((dnL ds).take q))) x.k (sp x.k + z1r (ofH x.k ((dnL ds).take q)) + (x.s.steps + 1)) := by
 funext k
 unfold up3
 rw [zF0 h, zAq, zH6, zIv]
 by_cases e : k = x.k
 ·rw [if_pos e.symm, if_pos e, e, z1r, z1r]; omega
 ·rw [if_neg (fun z => e z.symm), if_neg e, z1r]; dsimp only; omega
theorem rs_mo (mo : Nat -> Int) {ds : List Dn} {q : Nat} {x : Dn} (h : ds[q]? = some x) : (fun k => z1v (mo k) (ofH k ((dnL ds).take (q + 1)))) = up3 (fun k => z1v (mo k) (ofH k ((dnL ds).take q))) x.k (max (z1v (mo x.k) (ofH x.k ((dnL ds).take q))) (x.s.steps + 1)) := by
 funext k
 unfold up3
 rw [zF0 h, zAq, zCx, zIv]
 by_cases e : k = x.k
 ·rw [if_pos e.symm, if_pos e, e, z1v, z1v]
 ·rw [if_neg (fun z => e z.symm), if_neg e, z1v]
theorem rs_we (we : Nat -> Int) {ds : List Dn} {q : Nat} {x : Dn} (h : ds[q]? = some x) : (fun k => we k + ((ofH k ((dnL ds).take (q + 1))).length : Int)) = up3 (fun k => we k + ((ofH k ((dnL ds).take q)).length : Int)) x.k (we x.k + ((ofH x.k ((dnL ds).take q)).length : Int) + 1) := by
 funext k
 unfold up3
 rw [zF0 h, zAq, List.length_append, zIv]
 by_cases e : k = x.k
 ·rw [if_pos e.symm, if_pos e, e, List.length_singleton]; omega
 ·rw [if_neg (fun z => e z.symm), if_neg e, List.length_nil]; dsimp only; omega
structure RSt (w : World) (n bm B : Nat) (mv sp mo ca we : Nat -> Int) (al : Nat -> Bool) (d : Dsk) (M : Int) (base : Nat) (vd : Value) (ds : List Dn) (q : Nat) (wr : World) : Prop where
 fst : FSt w n bm B mv (fun k => sp k + z1r (ofH k ((dnL ds).take q))) (fun k => z1v (mo k) (ofH k ((dnL ds).take q))) ca (fun k => we k + ((ofH k ((dnL ds).take q)).length : Int)) al d M wr
 own : wr.ownsRow base 77 5 vd ds.length (z2k ds)
section
variable {w : World} {n bm B : Nat} {mv sp mo ca we : Nat -> Int} {al : Nat -> Bool} {d : Dsk} {M : Int} {base : Nat} {vd : Value} {ds : List Dn} {q : Nat} {wr : World}
theorem zIi {b k : Nat} {v : Value} (h : wr.ownsRow base 77 5 vd ds.length (z2k ds)) (hb : b < base) : (wr.setCell ⟨b, k, none⟩ v).ownsRow base 77 5 vd ds.length (z2k ds) :=
 World.ownsRow.kept h (kept_set (z1b b wr) k v) (Or.inr fun e => by have := (World.ownsRow.lt h _ e).1; omega)
theorem zWa {wr' : World} (h : wr.ownsRow base 77 5 vd ds.length (z2k ds)) (hb : Below wr.heap.size wr wr') : wr'.ownsRow base 77 5 vd ds.length (z2k ds) :=
 World.ownsRow.kept h (z0e hb wr.heap.size) (Or.inr fun e => by have := (World.ownsRow.lt h _ e).2; omega)
theorem RSt.start (h : FSt w n bm B mv sp mo ca we al d M wr) (ho : wr.ownsRow base 77 5 vd ds.length (z2k ds)) : RSt w n bm B mv sp mo ca we al d M base vd ds 0 wr := by
 refine ⟨?_, ho⟩
 have e1 : (fun k => sp k + z1r (ofH k ((dnL ds).take 0))) = sp := by funext k; rw [List.take_zero, ofH, z1r]; omega
 have e2 : (fun k => z1v (mo k) (ofH k ((dnL ds).take 0))) = mo := by funext k; rw [List.take_zero, ofH, z1v]
 have e3 : (fun k => we k + ((ofH k ((dnL ds).take 0)).length : Int)) = we := by funext k; rw [List.take_zero, ofH, List.length_nil]; omega
 rw [e1, e2, e3]
 exact h
theorem RSt.later {wr' : World} (h : RSt w n bm B mv sp mo ca we al d M base vd ds q wr) (hb : Below wr.heap.size wr wr') : RSt w n bm B mv sp mo ca we al d M base vd ds q wr' := ⟨h.fst.later hb, zWa h.own hb⟩
theorem RSt.close {x : Dn} (hx : ds[q]? = some x) (h : FSt w n bm B mv (up3 (fun k => sp k + z1r (ofH k ((dnL ds).take q))) x.k (sp x.k + z1r (ofH x.k ((dnL ds).take q)) + (x.s.steps + 1))) (up3 (fun k => z1v (mo k) (ofH k ((dnL ds).take q))) x.k (max (z1v (mo x.k) (ofH x.k ((dnL ds).take q))) (x.s.steps + 1))) ca (up3 (fun k => we k + ((ofH k ((dnL ds).take q)).length : Int)) x.k (we x.k + ((ofH x.k ((dnL ds).take q)).length : Int) + 1)) al d M wr) (ho : wr.ownsRow base 77 5 vd ds.length (z2k ds)) : RSt w n bm B mv sp mo ca we al d M base vd ds (q + 1) wr := by
 refine ⟨?_, ho⟩
 rw [rs_sp sp hx, rs_mo mo hx, rs_we we hx]
 exact h
theorem FSt.drew (h : FSt w n bm B mv sp mo ca we al d M wr) : FSt w n bm B mv sp mo ca we al d M wr.drew := ⟨h.bel.drew, h.may, h.sp, h.mo, h.ca, h.we, h.al, h.dsk.later ((bF _ _).drew), h.o1, h.o2, h.o3⟩
def alF (al : Nat -> Bool) (d : Dsk) (j : Nat) : Nat -> Bool := fun i => if i < j then al i && decide ((0 : Int) < ((d.g i).evs.length : Int)) else al i
theorem zV8 (al : Nat -> Bool) (d : Dsk) (j : Nat) : alF al d j j = al j := if_neg (Nat.lt_irrefl j)
theorem alF_up (al : Nat -> Bool) (d : Dsk) (j : Nat) : up3 (alF al d j) j (al j && decide ((0 : Int) < ((d.g j).evs.length : Int))) = alF al d (j + 1) := by
 funext i
 unfold up3 alF
 by_cases h : i = j
 ·rw [if_pos h, if_pos (by omega), h]
 ·rw [if_neg h]
  by_cases h2 : i < j
  ·rw [if_pos h2, if_pos (by omega)]
  ·rw [if_neg h2, if_neg (by omega)]
theorem Fr.al_eq {al' : Nat -> Bool} {r : Int} (h : Fr d mv sp mo ca we al r) (he : ∀ k, k < 3 -> al' k = al k) : Fr d mv sp mo ca we al' r := ⟨h.wait, h.may, h.left, h.most, h.owes, h.top, fun k hk ha => h.low k hk (by rw [<- he k hk]; exact ha), h.pos⟩
theorem zKw {r : Int} (h : Fr d mv sp mo ca we al r) (hd : ∀ k, k < 3 -> -1601 <= (d.g k).left) (hm : ∀ k, k < 3 -> 1 <= mv k /\ mv k <= 60) (h0 : 0 <= r) (h1 : r <= 60) (hc : ∀ k, k < 3 -> ca k <= 60) {k : Nat} (hk : k < 3) : (0 <= sp k /\ sp k <= 5300) /\ (0 <= mo k /\ mo k <= 1601) /\ (0 <= we k /\ we k <= 60) /\ (0 <= ca k /\ ca k <= 60) /\ 0 <= r * mv k /\ r * mv k <= 3600 := by
 have a1 := h.top k hk
 have a2 := hd k hk
 have a3 := h.pos k hk
 have a4 := h.wait k hk
 have a5 := hc k hk
 have a6 := mul60 h0 h1 (hm k hk).1 (hm k hk).2
 have a7 := h.most k hk
 omega
theorem zHy {ds : List Dn} (hl : ds.length <= 60) (hs : ∀ x, x ∈ dnL ds -> 0 <= x.2.steps /\ x.2.steps <= 1600) (q k : Nat) {m : Int} (h0 : 0 <= m) (hm : m <= 1601) : (0 <= z1r (ofH k ((dnL ds).take q)) /\ z1r (ofH k ((dnL ds).take q)) <= 96060) /\ (0 <= z1v m (ofH k ((dnL ds).take q)) /\ z1v m (ofH k ((dnL ds).take q)) <= 1601) /\ (ofH k ((dnL ds).take q)).length <= 60 := by
 have hin : ∀ s, s ∈ ofH k ((dnL ds).take q) -> 0 <= s.steps /\ s.steps <= 1600 := fun s h => hs _ (List.mem_of_mem_take (zAo h))
 have hn : (ofH k ((dnL ds).take q)).length <= 60 := by
  have h1 := zPs k ((dnL ds).take q)
  have h2 : ((dnL ds).take q).length <= (dnL ds).length := by rw [List.length_take]; omega
  have h3 : (dnL ds).length = ds.length := by unfold dnL; rw [List.length_map]
  omega
 have c1 := zBg _ fun s h => (hin s h).1
 have c2 := zL2 (m := 1601) _ fun s h => by have := (hin s h).2; omega
 have c3 := z7n (ofH k ((dnL ds).take q)) m
 have c4 := z8m (m := 1601) (ofH k ((dnL ds).take q)) m hm fun s h => by have := (hin s h).2; omega
 omega
theorem dok_ps (h : DOk wr B d M) : PsOk wr B d M := ⟨h.ps, h.few, h.told, h.ran0, h.ran1⟩
end
end
section
open Go.ChangeShapes Go.WideShapes Go.ChangeAt Go.RowKit
variable {ex : Ext}
section
variable {len : Nat} {C D S O N : Nat -> Int} {R : Nat -> Bool}
end
section
variable {bk off len cap : Nat} {C D S O N : Nat -> Int} {R : Nat -> Bool} {w : World}
end
end
section
open Go.ChangeShapes Go.WideShapes Go.ChangeAt Go.RowKit
section
variable (x : St)
end
end
section
open Go.ChangeShapes Go.WideShapes Go.ChangeAt Go.RowKit
section
variable {w0 : ByteArray} {ws : List ByteArray}
end
section
variable {c d s : Int} {r : Bool} {o n : Int}
end
section
variable {len : Nat} {C D S O N : Nat -> Int} {R : Nat -> Bool}
def stAt (C D S : Nat -> Int) (R : Nat -> Bool) (O N : Nat -> Int) (i : Nat) : St := ⟨C i, D i, S i, R i, O i, N i⟩
end
end
section
open Go.ChangeShapes Go.WideShapes Go.ChangeAt Go.RowKit
variable {len : Nat} {C D S O N : Nat -> Int} {R : Nat -> Bool}
end
section
open Go.ChangeShapes Go.WideShapes Go.ChangeAt Go.RowKit
section
variable {len : Nat} {C D S O N : Nat -> Int} {R : Nat -> Bool} {ps : List ByteArray}
theorem zCe (h : ps.map z2s = (List.range len).map fun i => some (stAt C D S R O N i)) : ps.length = len := by
 have := congrArg List.length h
 simpa using this
theorem zSy (h : ps.map z2s = (List.range len).map fun i => some (stAt C D S R O N i)) : ∀ y ∈ ps, (z2s y).isSome = true := by
 intro y hy
 have h1 : z2s y ∈ ps.map z2s := List.mem_map.2 ⟨y, hy, rfl⟩
 rw [h] at h1
 obtain ⟨i, _, e⟩ := List.mem_map.1 h1
 rw [<- e]; rfl
theorem zM1 (h : ps.map z2s = (List.range len).map fun i => some (stAt C D S R O N i)) : z3g ps = (List.range len).map (stAt C D S R O N) := by
 have h1 := congrArg (List.map fun o : Option St => o.getD St.zero) h
 rw [List.map_map, List.map_map] at h1
 exact h1
theorem zK6 (h : ps.map z2s = (List.range len).map fun i => some (stAt C D S R O N i)) {j : Nat} (hj : j < len) : nth (z3g ps) j = stAt C D S R O N j := by
 unfold nth
 rw [zM1 h, List.getElem?_map, List.getElem?_range hj]
 rfl
theorem zM2 (h : ps.map z2s = (List.range len).map fun i => some (stAt C D S R O N i)) {j : Nat} (hj : j < len) : z3m (z3g ps) j = z1j len C D S R O N j := by
 unfold z3m z1j
 rw [z3q, zCe h]
 dsimp only
 rw [zK6 h hj]
 rfl
end
theorem zFy {len : Nat} {C D S O N : Nat -> Int} {R : Nat -> Bool} {w W : World} {e : Ending} {t : ByteArray} (hp : (z0t t).map z2s = (List.range len).map fun i => some (stAt C D S R O N i)) (h2 : len <= 200) (hno : ∀ j, j < len -> z1j len C D S R O N j = 0) (h : zLd w t e W) :
  ∃ g cap, e = rT (.tuple #[.slice (some ⟨g, 0, none⟩) len cap, .nilIface]) /\ Below w.heap.size w W /\ g < W.heap.size /\ z1l W g 0 len C D S R O N := by
 obtain ⟨hb, h⟩ := h
 have hall := zSy hp
 have hlen := zCe hp
 rcases h with ⟨pre, x, post, p, hps, _, hx, _⟩ | ⟨_, h⟩
 ·have h1 := hall x (by rw [hps]; simp)
  rw [hx] at h1; cases h1
 ·rcases h with ⟨h200, _⟩ | ⟨_, h⟩
  ·omega
  ·rcases h with ⟨i, p, hi, _, hf, _⟩ | ⟨_, g, cap, rfl, hrow⟩
   ·rw [zM2 hp (by omega)] at hf
    exact absurd (hno i (by omega)) hf
   ·rw [hlen] at hrow ⊢
    refine ⟨g, cap, rfl, hb, zK9 hrow, fun i hi => ?_⟩
    have hst := z7f hrow (by rw [z3q, hlen]) i hi
    dsimp only at hst
    rw [zK6 hp hi] at hst
    exact hst
end
section
open Go.ChangeShapes Go.WideShapes Go.ChangeAt Go.RowKit
end
section
open Go.RowKit Go.Extern.Stop Go.Stop Go.Extern
def zLf (w : World) : Prop := w.cell? ⟨2, 0, none⟩ = some (.iface 286 (.agg #[pT (some ⟨12, 26, none⟩)]))
end
section
open Go.ChangeShapes Go.WideShapes Go.ChangeAt Go.RowKit
attribute [local simp] z00 z0d z07
variable {ex : Ext}
end
section
open Go.ChangeShapes Go.WideShapes Go.ChangeAt Go.RowKit
attribute [local simp] z00 z0d z07
def z44 (may : Nat -> Int) (j : Nat) : Dsk := ⟨fun i => ⟨[], 0, [], if i < j then may i else 0, 0⟩, 0⟩
def z5a : Array Value := Array.ofFn (n := 952) fun i => (z44 (fun _ => 0) 0).cell i.1
theorem zMx (may : Nat -> Int) : z44 may 0 = z44 (fun _ => 0) 0 := by
 unfold z44
 congr 1
theorem zO3 : Tryz.prog.built 93 [] = some z5a := by kernel_rfl
theorem zUr (d : Dsk) {k : Nat} (x : Int) (hk : k < 3) (j : Nat) (_ : j < 952) : (d.put k { d.g k with may := x }).cell j = if j = k * 317 + 315 then A E x else d.cell j := by
 rw [z6l d _ hk]
 by_cases c : k * 317 <= j /\ j < k * 317 + 317
 ·rw [if_pos c]
  obtain ⟨i, rfl⟩ : ∃ i, j = k * 317 + i := ⟨j - k * 317, by omega⟩
  rw [Nat.add_sub_cancel_left, z2l d hk (by omega)]
  unfold z1f
  dsimp only
  by_cases c1 : i < 154
  ·rw [if_pos c1, if_pos c1, if_neg (show ¬ k * 317 + i = k * 317 + 315 by omega)]
  rw [if_neg c1, if_neg c1]
  by_cases c2 : i < 314
  ·rw [if_pos c2, if_pos c2, if_neg (show ¬ k * 317 + i = k * 317 + 315 by omega)]
  rw [if_neg c2, if_neg c2]
  by_cases c3 : i = 314
  ·rw [if_pos c3, if_pos c3, if_neg (show ¬ k * 317 + i = k * 317 + 315 by omega)]
  rw [if_neg c3, if_neg c3]
  by_cases c4 : i = 315
  ·rw [if_pos c4, if_pos (show k * 317 + i = k * 317 + 315 by omega)]
  ·rw [if_neg c4, if_neg c4, if_neg (show ¬ k * 317 + i = k * 317 + 315 by omega)]
 ·rw [if_neg c, if_neg (show ¬ j = k * 317 + 315 by omega)]
theorem zMy (may : Nat -> Int) (k : Nat) : z44 may (k + 1) = (z44 may k).put k { (z44 may k).g k with may := may k } := by
 unfold z44 Dsk.put
 dsimp only
 congr 1
 funext i
 by_cases c : i = k
 ·rw [if_pos c, c, if_pos (Nat.lt_succ_self k)]
 ·rw [if_neg c]
  congr 1
  by_cases c2 : i < k
  ·rw [if_pos c2, if_pos (by omega)]
  ·rw [if_neg c2, if_neg (by omega)]
theorem zVf (a b c : Value) : (Tryz.prog.info? 22).map (·.size) = some #[a, b, c].size := by kernel_rfl
theorem zQm (may : Nat -> Int) (h0 : ∀ k, k < 3 -> 1 <= may k) (h1 : ∀ k, k < 3 -> may k <= 1000) (w : World) :
  Calls tP 6 #[.agg #[A E (may 0), A E (may 1), A E (may 2)]] w fun e w' => e = rT (.tuple #[pT (some ⟨w.heap.size + 1, 0, none⟩), .nilIface]) /\ Below w.heap.size w w' /\ z0k w' (w.heap.size + 1) (z44 may 3) := by
 have hK0 : Blk w [(w.heap.size, cT #[A E (may 0), A E (may 1), A E (may 2)] 22 (0, 0))] (w.alloc (cT #[A E (may 0), A E (may 1), A E (may 2)] 22)) := (Blk.nil ((bF _ _).alloc (Nat.le_refl _) _)).cons (heap_alloc_new w _)
 have hz0 : (w.alloc (cT #[A E (may 0), A E (may 1), A E (may 2)] 22)).heap.size = w.heap.size + 1 := by simp
 go_enter Tryz.func6, Tryz.ntmps6
 go_upto_region 1 with fail
 generalize w.alloc (cT #[A E (may 0), A E (may 1), A E (may 2)] 22) = w0 at hK0 hz0 ⊢
 go_step
 refine wpList_buildTo rfl 93 #[] rfl (some 7) rfl z5a (by simpa using zO3) ?_
 simp only [Act.put, siA, scZ, scS]
 (refine z03 rfl (pT (some ⟨w.heap.size + 1, 0, none⟩)) (w0.alloc (cT z5a 93)) (by rw [<- hz0]; go_simp; try rfl) ?_); simp only [Act.put, siA, scZ, scS]
 have hb1 : Below w.heap.size w (w0.alloc (cT z5a 93)) := hK0.1.alloc hK0.1.size _
 have hm1 := (heap_alloc_old w0 (cT z5a 93) (hK0.lt mcS)).trans (hK0.2 _ mcS)
 have hd1 : z0k (w0.alloc (cT z5a 93)) (w.heap.size + 1) (z44 may 0) := by rw [zMx, <- hz0]; exact heap_alloc_new w0 _
 clear hK0
 generalize w0.alloc (cT z5a 93) = w1 at hb1 hm1 hd1 ⊢
 have HI : Hid (Below w.heap.size w w1 /\ z0k w1 (w.heap.size + 1) (z44 may 0)) := ⟨hb1, hd1⟩
 go_upto_region 2 with fail
 go_step
 refine wpList_load_row rfl 22 (.tmp 1) rfl w.heap.size rfl 22 #[A E (may 0), A E (may 1), A E (may 2)] (0, 0) _ hm1 Tryz.underlying22 rfl (zVf _ _ _) ?_
 simp only [Act.put, siA, scZ, scS]
 clear hb1 hm1 hd1
 go_upto_region 3 with fail
 go_loopw [10] (fun kv wr => ∃ k : Nat, kv = A E k /\ k <= 3 /\ Hid (Below w.heap.size w wr /\ z0k wr (w.heap.size + 1) (z44 may k))) (fun kv _ => 3 - (intOf kv).toNat)
 case atStart => exact ⟨0, rfl, by decide, HI.out⟩
 case round =>
  obtain ⟨k, rfl, hk3, H⟩ := hrel
  clear HI
  by_cases hk : k < 3
  ·have a0 := h0 k hk
   have a1 := h1 k hk
   have cf := FnAt.frozen H.out.2 (k * 317 + 315)
   have c0 := zF1 H.out.2 hk
   have HN : Hid (Below w.heap.size w (wr.setCell ⟨w.heap.size + 1, k * 317 + 315, none⟩ (A E (may k))) /\ z0k (wr.setCell ⟨w.heap.size + 1, k * 317 + 315, none⟩ (A E (may k))) (w.heap.size + 1) (z44 may (k + 1))) := by
    refine ⟨H.out.1.setCell (show w.heap.size <= w.heap.size + 1 by omega) _, ?_⟩
    rw [zMy]
    exact FnAt.ext (FnAt.set H.out.2 (k * 317 + 315) _) fun j hj => zUr (z44 may k) (may k) hk j hj
   have t1 : decide (may k < 1) = false := decide_eq_false (by omega)
   have t2 : decide (1000 < may k) = false := decide_eq_false (by omega)
   rcases (show k = 0 \/ k = 1 \/ k = 2 by omega) with rfl | rfl | rfl
   ·simp only [Nat.zero_mul, Nat.one_mul, Nat.zero_add, Nat.reduceMul, Nat.reduceAdd] at c0 cf HN t1 t2
    push_cast
    go_upto_region 4 with fail
    go_step
    (refine z03 rfl (A E 0) wr (by go_simp; try rfl) ?_); simp only [Act.put, siA, scZ, scS]
    (refine z03 rfl (A E (may 0)) wr (by kernel_rfl) ?_); simp only [Act.put, siA, scZ, scS]
    go_wp2_with fail
    go_roundw
    case rel => exact ⟨1, by go_num, by decide, HN.out⟩
    case measure => simp [intOf]
   ·simp only [Nat.zero_mul, Nat.one_mul, Nat.zero_add, Nat.reduceMul, Nat.reduceAdd] at c0 cf HN t1 t2
    push_cast
    go_upto_region 4 with fail
    go_step
    (refine z03 rfl (A E 1) wr (by go_simp; try rfl) ?_); simp only [Act.put, siA, scZ, scS]
    (refine z03 rfl (A E (may 1)) wr (by kernel_rfl) ?_); simp only [Act.put, siA, scZ, scS]
    go_wp2_with fail
    go_roundw
    case rel => exact ⟨2, by go_num, by decide, HN.out⟩
    case measure => simp [intOf]
   ·simp only [Nat.zero_mul, Nat.one_mul, Nat.zero_add, Nat.reduceMul, Nat.reduceAdd] at c0 cf HN t1 t2
    push_cast
    go_upto_region 4 with fail
    go_step
    (refine z03 rfl (A E 2) wr (by go_simp; try rfl) ?_); simp only [Act.put, siA, scZ, scS]
    (refine z03 rfl (A E (may 2)) wr (by kernel_rfl) ?_); simp only [Act.put, siA, scZ, scS]
    go_wp2_with fail
    go_roundw
    case rel => exact ⟨3, by go_num, by decide, HN.out⟩
    case measure => simp [intOf]
  ·obtain rfl : k = 3 := by omega
   go_wp2_with fail
   exact bodyPost_ret (v := .tuple #[pT (some ⟨w.heap.size + 1, 0, none⟩), .nilIface]) (by simp [results, Tryz.results6, go_sem, *]) rfl ⟨rfl, H.out.1, H.out.2⟩
end
section
open Go.ChangeShapes Go.WideShapes Go.ChangeAt Go.RowKit
attribute [local simp] z00 z0d z07
def z5p : Array Value := z27 fun _ => 0
theorem zF5 (tmps : Array Value) (w' : World) (g : Nat) (cs : Array Value) (h4 : tmps.getD 4 undef = pT (some ⟨g, 0, none⟩)) (h5 : tmps.getD 5 undef = .nilIface) (hg : w'.heap[g]? = some (cT cs 55 (0, 0))) (hs : cs.size = 16) :
  (results Tryz.f14 tmps).run tP w' = .ok (.tuple #[.agg cs, .nilIface]) w' := by
 have h4' : tmps[4]?.getD undef = pT (some ⟨g, 0, none⟩) := by simpa using h4
 have h5' : tmps[5]?.getD undef = .nilIface := by simpa using h5
 have hl := run_loadVar_row (P := tP) w' g 55 55 cs (0, 0) _ hg Tryz.underlying55 rfl (by rw [Tryz.info55, hs])
 simp [results, Tryz.results14, asAddr, h4', h5', hl]
theorem zUn (B k : Nat) (hk : k < 3) (d : Dsk) (id : Int) (p : Pg) (w : World) (hD : z0k w B d) (h8 : (d.g k).ps.length <= 8) (I : Nat) (HI : Hid (((d.g k).ps.findIdx fun p => p.id == id) = I)) (HN : Hid (I < (d.g k).ps.length)) (HP : Hid ((d.g k).ps.getD I pg0 = p)) : Calls tP 14 #[pT (some ⟨B, k * 317, none⟩), A E id] w fun e w' => e = rT (.tuple #[.agg (z27 p.tab), .nilIface]) /\ Below w.heap.size w w' := by
 have hI8 : I < 8 := by have := HN.out; omega
 have hI0 : (0 : Int) <= (I : Int) := by omega
 have hI1 : (I : Int) < 8 := by omega
 have hK0 : Blk w [(w.heap.size, cT z5p 55 (0, 0)), (B, cT (Array.ofFn (n := 952) fun i => Dsk.cell d i.1) 93 (0, 0))] (w.alloc (cT z5p 55)) := ((Blk.nil ((bF _ _).alloc (Nat.le_refl _) _)).cons ((heap_alloc_old _ _ hD.lt).trans hD)).cons (heap_alloc_new w _)
 go_enter Tryz.func14, Tryz.ntmps14
 go_upto_region 1 with fail
 change Code.wp _ _ _ _ (w.alloc (cT z5p 55))
 generalize w.alloc (cT z5p 55) = w0 at hK0 ⊢
 have hF := zTk B k hk d id w0 (hK0.2 _ (mcO _ mcS)) h8 I HI HN
 go_upto_region 4 with (first | (go_at_call 33; go_must (refine hF.mono ?_; rintro e w3 ⟨rfl, hb3⟩; have hK3 := hK0.later hb3; clear hK0 hb3)) | fail)
 go_step
 (refine z03 rfl (pT (some ⟨B, k * 317, none⟩)) w3 (by go_simp; try rfl) ?_); simp only [Act.put, siA, scZ, scS]
 (refine z03 rfl (A E (I : Int)) w3 (by go_simp; try rfl) ?_); simp only [Act.put, siA, scZ, scS]
 (refine z03 rfl (pT (some ⟨B, k * 317, none⟩)) w3 (by go_simp; try rfl) ?_); simp only [Act.put, siA, scZ, scS]
 (refine z03 rfl (pT (some ⟨B, k * 317, none⟩)) w3 (by go_simp; try rfl) ?_); simp only [Act.put, siA, scZ, scS]
 (refine z03 rfl (pT (some ⟨B, k * 317 + I * 19, none⟩)) w3 (by go_simp; try rfl) ?_); simp only [Act.put, siA, scZ, scS]
 (refine z03 rfl (pT (some ⟨B, k * 317 + I * 19 + 3, none⟩)) w3 (by go_simp; try rfl) ?_); simp only [Act.put, siA, scZ, scS]
 refine wpList_load_mid rfl 55 (.tmp 23) rfl B (k * 317 + I * 19 + 3) rfl (z27 p.tab).toList _ (by have h := zL0 (hK3.2 _ (mcO _ mcS)) hk hI8; rw [HP.out] at h; exact h) Tryz.underlying55 rfl (by rw [Tryz.info55]; rfl) ?_
 rw [Array.toArray_toList]
 simp only [Act.put, siA, scZ, scS]
 refine wpList_store_row rfl 55 (.tmp 4) (.tmp 24) rfl w.heap.size (z27 p.tab) rfl rfl 55 z5p (hK3.2 _ mcS) Tryz.info55 rfl (zA0 _) ?_
 simp only [Act.put, siA, scZ, scS]
 have hr := setRow_heap w3 w.heap.size z5p (z27 p.tab) 55 (0, 0) (hK3.2 _ mcS)
 have hb := z06 hK3.1 (Nat.le_refl _) (z27 p.tab)
 go_wp2_with fail
 exact bodyPost_ret (v := .tuple #[.agg (z27 p.tab), .nilIface]) (zF5 _ _ w.heap.size _ rfl rfl hr rfl) rfl ⟨rfl, hb⟩
end
section
open Go.ChangeShapes Go.WideShapes Go.ChangeAt Go.RowKit
variable {ex : Ext}
theorem zLg {z : Int} (h1 : 0 <= z) (h2 : z < 9223372036854775808) : wrap64 z = z := by unfold wrap64; omega
theorem zW8 (a n : Int) (hn : 0 < n) (hn2 : n <= 9223372036854775807) (w : World) : Calls tP 16 #[A E a, A E n] w fun e w' => e = rT (A E (wrap64 ((a % 18446744073709551616) % (n % 18446744073709551616)))) /\ w' = w := by
 have ha := IntKind.wrap_u64 a
 have hb := IntKind.wrap_u64 n
 go_enter Tryz.func16, Tryz.ntmps16
 go_wp2
 go_ret
 exact ⟨rfl, rfl⟩
def pickF (a : Int) (n : Nat) : Nat := ((a % 18446744073709551616) % (n : Int)).toNat
theorem zE9 (a : Int) {n : Nat} (hn : 0 < n) : pickF a n < n := by
 unfold pickF
 have h1 := Int.emod_nonneg (a % 18446744073709551616) (show (n : Int) ≠ 0 by omega)
 have h2 := Int.emod_lt_of_pos (a % 18446744073709551616) (show (0 : Int) < (n : Int) by omega)
 omega
theorem zPj (a : Int) (n : Nat) (hn : 0 < n) (hn2 : n <= 1000) (w : World) : Calls tP 16 #[A E a, A E (n : Int)] w fun e w' => e = rT (A E (pickF a n : Int)) /\ w' = w := by
 have h := zW8 a n (by omega) (by omega) w
 have e : wrap64 ((a % 18446744073709551616) % ((n : Int) % 18446744073709551616)) = (pickF a n : Int) := by
  have h1 := Int.emod_nonneg (a % 18446744073709551616) (show (n : Int) ≠ 0 by omega)
  have h2 := Int.emod_lt_of_pos (a % 18446744073709551616) (show (0 : Int) < (n : Int) by omega)
  rw [Int.emod_eq_of_lt (a := (n : Int)) (by omega) (by omega), zLg h1 (by omega)]
  unfold pickF
  omega
 rw [e] at h
 exact h
def hkB : ByteArray := ⟨#[109, 111, 118, 32, 114, 49, 32, 48, 59, 32, 99, 97, 108, 108, 32, 102, 105, 110, 100, 59, 32, 106, 101, 113, 32, 114, 48, 32, 48, 32, 51, 59, 32, 108, 111, 97, 100, 32, 114, 50, 32, 91, 114, 48, 43, 48, 93, 59, 32, 97, 100, 100, 32, 114, 50, 32, 49, 59, 32, 115, 116, 111, 114, 101, 32, 91, 114, 48, 43, 48, 93, 32, 114, 50, 59, 32, 109, 111, 118, 32, 114, 48, 32, 48, 59, 32, 101, 120, 105, 116]⟩
def hkL : List St := [⟨1, 1, 0, false, 0, 0⟩, ⟨27, 0, 0, false, 0, 1⟩, ⟨15, 0, 0, false, 3, 0⟩, ⟨25, 2, 0, false, 0, 0⟩, ⟨2, 2, 0, false, 0, 1⟩, ⟨26, 0, 2, true, 0, 0⟩, ⟨1, 0, 0, false, 0, 0⟩, ⟨28, 0, 0, false, 0, 0⟩]
def hkC (i : Nat) : Int := (nth hkL i).c
def hkD (i : Nat) : Int := (nth hkL i).d
def hkS (i : Nat) : Int := (nth hkL i).s
def hkR (i : Nat) : Bool := (nth hkL i).r
def hkO (i : Nat) : Int := (nth hkL i).o
def hkN (i : Nat) : Int := (nth hkL i).n
theorem zQn : (z0t hkB).map z2s = (List.range 8).map fun i => some (stAt hkC hkD hkS hkR hkO hkN i) := by kernel_rfl
theorem zQo : ∀ j, j < 8 -> z1j 8 hkC hkD hkS hkR hkO hkN j = 0 := by
 intro j hj
 rcases (by omega : j = 0 \/ j = 1 \/ j = 2 \/ j = 3 \/ j = 4 \/ j = 5 \/ j = 6 \/ j = 7) with rfl | rfl | rfl | rfl | rfl | rfl | rfl | rfl <;> decide
theorem hk_64 : ∀ j, j < 8 -> In64 (nth hkL j).o /\ In64 (nth hkL j).n := by
 intro j hj
 rcases (by omega : j = 0 \/ j = 1 \/ j = 2 \/ j = 3 \/ j = 4 \/ j = 5 \/ j = 6 \/ j = 7) with rfl | rfl | rfl | rfl | rfl | rfl | rfl | rfl <;> (unfold In64; decide)
theorem zWs (he : ∀ w, ex.holds w -> z36 w) (hu : ∀ w, ex.holds w -> Lib.Utf8Tabs 4 5 w) (w : World) (hT : Tabs ex w) : Calls tP 34 #[.string ⟨#[109, 111, 118, 32, 114, 49, 32, 48, 59, 32, 99, 97, 108, 108, 32, 102, 105, 110, 100, 59, 32, 106, 101, 113, 32, 114, 48, 32, 48, 32, 51, 59, 32, 108, 111, 97, 100, 32, 114, 50, 32, 91, 114, 48, 43, 48, 93, 59, 32, 97, 100, 100, 32, 114, 50, 32, 49, 59, 32, 115, 116, 111, 114, 101, 32, 91, 114, 48, 43, 48, 93, 32, 114, 50, 59, 32, 109, 111, 118, 32, 114, 48, 32, 48, 59, 32, 101, 120, 105, 116]⟩] w fun e w' => ∃ v, e = rT v /\ ∃ g cp, v = .tuple #[.slice (some ⟨g, 0, none⟩) 8 cp, .nilIface] /\ Below w.heap.size w w' /\ LsAt w' (.slice (some ⟨g, 0, none⟩) 8 cp) hkL :=
 (zTg he hu hkB (by decide) w hT).mono fun e w' hre => by
  obtain ⟨g, cp, h1, h2, h3, h4⟩ := zFy zQn (by decide) zQo hre
  exact ⟨_, h1, g, cp, rfl, h2, ⟨⟨_, cp, rfl, Or.inr ⟨g, 0, rfl, h3, h4⟩⟩, hk_64⟩⟩
theorem zWt : Lets hkL := ⟨by decide, by decide, fun j hj => zQo j hj, [⟨1, 0, 0⟩, ⟨1, 0, 0⟩], by kernel_rfl⟩
def hkD0 : Dsk := z44 (fun _ => 5) 3
def hkPg (sl : Value) : Pg := ⟨1, 3, sl, hkL, fun _ => 0⟩
def hkD1 (sl : Value) : Dsk := hkD0.put 1 { hkD0.g 1 with ps := [hkPg sl], last := 1 }
def hkT : Nat -> Int := fun _ => 0
def hkEv (d : Dsk) : Dsk := d.put 1 { d.g 1 with evs := (d.g 1).evs ++ [hkT] }
def hkD3 (sl : Value) : Dsk := hkEv (hkEv (hkD1 sl))
theorem zU9 (sl : Value) : ((z0g 3 (hkD3 sl)).2.map fun x => (x.1, x.2.steps)) = [(1, 8)] /\ ((z0g 3 (hkD3 sl)).1.g 1).evs.length = 1 /\ ((z0g 3 (hkD3 sl)).1.g 1).left = -4 /\ ((z0g 3 (hkD3 sl)).1.g 1).ps.length = 1 /\ (((z0g 3 (hkD3 sl)).1.g 1).ps.getD 0 pg0).id = 1 /\ (((z0g 3 (hkD3 sl)).1.g 1).ps.getD 0 pg0).tab 0 = 1 := ⟨by kernel_rfl, by kernel_rfl, by kernel_rfl, by kernel_rfl, by kernel_rfl, by kernel_rfl⟩
end
section
open Go.ChangeShapes Go.WideShapes Go.ChangeAt Go.RowKit
attribute [local simp] z00 z0d z07
variable {ex : Ext}
theorem one_of {ds : List Dn} (h : (ds.map fun x => (x.k, x.s.steps)) = [(1, 8)]) : ∃ x, ds = [x] /\ x.s.steps = 8 := by
 rcases ds with _ | ⟨x, _ | ⟨y, r⟩⟩
 ·exact absurd h (by simp)
 ·exact ⟨x, rfl, congrArg Prod.snd (List.cons.inj h).1⟩
 ·exact absurd (congrArg List.length h) (by simp)
theorem zWu (sl : Value) : ∀ k, k < 3 -> ((hkD3 sl).g k).left <= 0 := by
 intro k hk
 rcases (by omega : k = 0 \/ k = 1 \/ k = 2) with rfl | rfl | rfl <;> exact Int.le_refl _
theorem zUa (sl : Value) : (((z0g 3 (hkD3 sl)).1.g 1).ps.findIdx fun p => p.id == 1) = 0 := by kernel_rfl
theorem hk_ok (w : World) (B : Nat) (sl : Value) (hD : z0k w B (hkD3 sl)) (hq : PgOk w B (hkPg sl)) : DOk w B (hkD3 sl) 1 := by
 refine ⟨hD, ?_, ?_, ?_, ?_, ?_, ?_, ?_, ?_, ?_, ?_, by show (0 : Int) <= 0; decide, by show (0 : Int) <= 1; decide⟩ <;> intro k hk <;> rcases (by omega : k = 0 \/ k = 1 \/ k = 2) with rfl | rfl | rfl
 ·exact fun p hp => absurd hp (by exact List.not_mem_nil)
 ·exact fun p hp => by rw [List.mem_singleton.1 (show p ∈ [hkPg sl] from hp)]; exact hq
 ·exact fun p hp => absurd hp (by exact List.not_mem_nil)
 ·show 0 <= 8; decide
 ·show 1 <= 8; decide
 ·show 0 <= 8; decide
 ·show 0 <= 20; decide
 ·show 2 <= 20; decide
 ·show 0 <= 20; decide
 ·exact fun T hp => absurd hp (by exact List.not_mem_nil)
 ·intro T hp i _
  have : T ∈ [hkT, hkT] := hp
  have e : T = hkT := by simpa using this
  rw [e]
  exact ⟨by show (-9223372036854775808 : Int) <= 0; decide, by show (0 : Int) <= 9223372036854775807; decide⟩
 ·exact fun T hp => absurd hp (by exact List.not_mem_nil)
 ·show (1 : Int) <= 5; decide
 ·show (1 : Int) <= 5; decide
 ·show (1 : Int) <= 5; decide
 ·show (5 : Int) <= 1000; decide
 ·show (5 : Int) <= 1000; decide
 ·show (5 : Int) <= 1000; decide
 ·show (-1601 : Int) <= 0; decide
 ·show (-1601 : Int) <= 0; decide
 ·show (-1601 : Int) <= 0; decide
 ·show (0 : Int) <= 2000; decide
 ·show (0 : Int) <= 2000; decide
 ·show (0 : Int) <= 2000; decide
 ·show (0 : Int) <= 0; decide
 ·show (0 : Int) <= 1; decide
 ·show (0 : Int) <= 0; decide
 ·show (0 : Int) <= 1; decide
 ·show (1 : Int) <= 1; decide
 ·show (0 : Int) <= 1; decide
theorem zJ7 (he : ∀ w, ex.holds w -> z36 w) (hu : ∀ w, ex.holds w -> Lib.Utf8Tabs 4 5 w) (w : World) (hT : Tabs ex w) : Calls tP 15 #[] w fun e w' => e = rT (.bool true) /\ Below w.heap.size w w' := by
 go_enter Tryz.func15, Tryz.ntmps15
 go_upto_region 1 with fail
 go_step
 refine z0p rfl 34 #[.string ⟨#[109, 111, 118, 32, 114, 49, 32, 48, 59, 32, 99, 97, 108, 108, 32, 102, 105, 110, 100, 59, 32, 106, 101, 113, 32, 114, 48, 32, 48, 32, 51, 59, 32, 108, 111, 97, 100, 32, 114, 50, 32, 91, 114, 48, 43, 48, 93, 59, 32, 97, 100, 100, 32, 114, 50, 32, 49, 59, 32, 115, 116, 111, 114, 101, 32, 91, 114, 48, 43, 48, 93, 32, 114, 50, 59, 32, 109, 111, 118, 32, 114, 48, 32, 48, 59, 32, 101, 120, 105, 116]⟩] (by go_simp; try rfl) (zWs he hu w hT) ?_
 rintro v w1 ⟨g, cp, rfl, hb1, hL1⟩
 simp only [Act.put, siA, scZ, scS]
 go_upto_region 2 with fail
 go_step
 (refine z03 rfl (.agg #[A E 5, A E 5, A E 5]) w1 (by go_simp; try rfl) ?_); simp only [Act.put, siA, scZ, scS]
 refine z0p rfl 6 #[.agg #[A E 5, A E 5, A E 5]] (by go_simp; try rfl) (R := fun v w' => v = .tuple #[pT (some ⟨(w1.heap.size + 1), 0, none⟩), .nilIface] /\ Below w1.heap.size w1 w' /\ z0k w' (w1.heap.size + 1) hkD0) ((zQm (fun _ => 5) (fun _ _ => by decide) (fun _ _ => by decide) w1).mono fun e w' ⟨h1, h2⟩ => ⟨_, h1, rfl, h2⟩) ?_
 rintro v w2 ⟨rfl, hb2, hD2⟩
 simp only [Act.put, siA, scZ, scS]
 have hL2 := hL1.later hb2
 have hlow := hL1.low (by decide)
 have hbw2 := hb1.trans (hb2.mono hb1.size)
 have hs2 := hD2.lt
 have hs1 := hb1.size
 clear hL1 hb1 hb2
 generalize hB : (w1.heap.size + 1) = B at hD2 hs2 ⊢
 go_upto_region 8 with (first | (go_at_call 10; go_must (refine (zGo B 1 (by decide) _).mono ?_; rintro e w3 ⟨rfl, rfl⟩)) | fail)
 go_step
 (refine z03 rfl (pT (some ⟨B, 317, none⟩)) w3 (by go_simp; try rfl) ?_); simp only [Act.put, siA, scZ, scS]
 (refine z03 rfl (.slice (some ⟨g, 0, none⟩) 8 cp) w3 (by go_simp; try rfl) ?_); simp only [Act.put, siA, scZ, scS]
 refine z0p rfl 18 #[pT (some ⟨B, 317, none⟩), .slice (some ⟨g, 0, none⟩) 8 cp, A E 3] (by go_simp; try rfl) (R := fun v w' => v = .tuple #[A E 1, .nilIface] /\ Kept B w3 w' /\ ∃ sl, PgOk w' B (hkPg sl) /\ z0k w' B (hkD1 sl)) ((zD1 B 1 0 (by decide) hkD0 _ hkL 3 w3 hD2 rfl (by decide) hL2 zWt (fun k _ p hp => absurd hp (by exact List.not_mem_nil)) (fun a n c e => by have := hlow a n c e; omega) (by decide) (by decide)).mono fun e w' h => by
  obtain ⟨h1, h2, q, q1, q2, q3, q4, q5, q6⟩ := h
  have eq : q = hkPg q.sl := by rcases q with ⟨a1, a2, a3, a4, a5⟩; dsimp only at q1 q2 q3 q4; rw [q1, q2, q3, q4]; rfl
  rw [eq] at q5 q6
  exact ⟨_, h1, rfl, h2, q.sl, q5, q6⟩) ?_
 rintro v w4 ⟨rfl, hk4, sl, hq4, hD4⟩
 simp only [Act.put, siA, scZ, scS]
 have hbw4 := Kept.below hbw2 hk4 (by omega)
 clear hbw2 hL2 hD2 hs2
 go_upto_region 11 with (first | (go_at_call 17; refine (zB3 B 1 0 (by decide) (hkD1 sl) hkT _ hD4 rfl (by decide)).mono ?_; rintro e w5 ⟨rfl, hk5, hD5⟩) | (go_at_call 17; go_must (refine (zB3 B 1 1 (by decide) (hkEv (hkD1 sl)) hkT _ hD5 rfl (by decide)).mono ?_; rintro e w6 ⟨rfl, hk6, hD6⟩)) | fail)
 have hk46 : Kept B w4 w6 := z1t hk5 hk6
 have hbw6 := Kept.below hbw4 hk46 (by omega)
 have hO6 : DOk w6 B (hkD3 sl) 1 := hk_ok w6 B sl hD6 (hq4.kept hk46)
 clear hD5 hk5 hk6 hk46 hbw4 hD4 hq4 hk4 hD6
 have hR := zGn B (hkD3 sl) 1 (by decide) (by decide) w6 hO6 (zWu sl)
 have rds := zU9 sl
 have hpl := zUa sl
 clear hO6
 generalize z0g 3 (hkD3 sl) = RR at hR rds hpl
 obtain ⟨rd1, rd2, rd3, rd4, rd5, rd6⟩ := rds
 go_step
 (refine z03 rfl (pT (some ⟨B, 0, none⟩)) w6 (by go_simp; try rfl) ?_); simp only [Act.put, siA, scZ, scS]
 refine z0p rfl 19 #[pT (some ⟨B, 0, none⟩)] (by go_simp; try rfl) (R := fun vd w' => ∃ ds, Kept B w6 w' /\ DOk w' B RR.1 (1 + 60) /\ DnAt w' w6.heap.size vd ds /\ (ds.map fun x => (x.k, x.s)) = RR.2 /\ ds.length <= 60) (hR.mono fun e w' ⟨vd, ds, h1, h2⟩ => ⟨vd, h1, ds, h2⟩) ?_
 rintro vd w7 ⟨ds, hk7, hO7, hd7, hm7, -⟩
 simp only [Act.put, siA, scZ, scS]
 obtain ⟨x, hx, hxs⟩ := one_of (ds := ds) (by have e := congrArg (List.map fun x : Nat × Sd => (x.1, x.2.steps)) hm7; rw [rd1, List.map_map] at e; exact e)
 subst hx
 have hbw7 := Kept.below hbw6 hk7 (by omega)
 obtain ⟨gd, cpd, rfl⟩ : ∃ gd cpd, vd = .slice (some ⟨gd, 0, none⟩) 1 cpd := by
  rcases rowShape hd7.1 with ⟨-, e⟩ | ⟨g, c, e⟩
  ·exact absurd e (Nat.succ_ne_zero 0)
  ·exact ⟨g, c, e⟩
 have cs7 : w7.cell? ⟨gd, 4, none⟩ = some (A E 8) := by rw [World.ownsRow.cellAt hd7.1 4 (by decide)]; show some (Value.int .i64 x.s.steps) = _; rw [hxs]
 have hgd : gd < w7.heap.size := (World.ownsRow.lt hd7.1 gd rfl).2
 clear hm7 hd7 hbw6 hk7
 obtain ⟨P, hP⟩ : ∃ P, (RR.1.g 1).ps.getD 0 pg0 = P := ⟨_, rfl⟩
 go_upto_region 12 with fail
 go_step
 (refine z03 rfl (pT (some ⟨B, 317, none⟩)) w7 (by go_simp; try rfl) ?_); simp only [Act.put, siA, scZ, scS]
 refine z0m rfl 14 #[pT (some ⟨B, 317, none⟩), A E 1] (by go_simp; try rfl) (.tuple #[.agg (z27 P.tab), .nilIface]) (zUn B 1 (by decide) RR.1 1 P w7 hO7.at_ (by rw [rd4]; decide) 0 hpl (show 0 < _ by rw [rd4]; decide) hP) ?_
 intro w8 hb8
 simp only [Act.put, siA, scZ, scS]
 (refine z03 rfl (.tuple #[.agg (z27 P.tab), .nilIface]) w8 (by go_simp; try rfl) ?_); simp only [Act.put, siA, scZ, scS]
 (refine z03 rfl (.agg (z27 P.tab)) w8 (by go_simp; try rfl) ?_); simp only [Act.put, siA, scZ, scS]
 (refine z03 rfl (.nilIface) w8 (by go_simp; try rfl) ?_); simp only [Act.put, siA, scZ, scS]
 (refine z03 rfl (pT (some ⟨w8.heap.size, 0, none⟩)) (w8.alloc (cT z5p 55)) (by go_simp; try rfl) ?_); simp only [Act.put, siA, scZ, scS]
 refine wpList_store_row rfl 55 (.tmp 8) (.tmp 68) rfl w8.heap.size (z27 P.tab) rfl rfl 55 z5p (heap_alloc_new w8 _) Tryz.info55 rfl (zA0 _) ?_
 simp only [Act.put, siA, scZ, scS]
 have hb9 : Below w7.heap.size w7 ((w8.alloc (cT z5p 55)).setRow w8.heap.size (z27 P.tab)) := z06 (hb8.alloc hb8.size _) hb8.size _
 have ct := setRow_heap _ w8.heap.size z5p (z27 P.tab) 55 (0, 0) (heap_alloc_new w8 (cT z5p 55))
 generalize (w8.alloc (cT z5p 55)).setRow w8.heap.size (z27 P.tab) = w9 at hb9 ct ⊢
 generalize w8.heap.size = b8 at ct ⊢
 have hbw9 := hbw7.trans (hb9.mono hbw7.size)
 have hO9 := hO7.later hb9
 have c9 := (hb9.cell (p := ⟨gd, 4, none⟩) hgd).trans cs7
 have ct0 : w9.cell? ⟨b8, 0, none⟩ = some (A E 1) := by rw [cell_of_row w9 b8 0 _ _ _ ct]; show some (Value.int .i64 (P.tab 0)) = _; rw [<- hP, rd6]
 have hw9 := zB2 B 1 (by decide) _ w9 hO9.at_
 have hl9 := zU8 B 1 (by decide) _ w9 hO9.at_
 rw [rd2] at hw9
 rw [rd3] at hl9
 have HW : Hid (Calls tP 11 #[pT (some ⟨B, 0, none⟩), A E 1] w9 fun e w' => e = rT (A E 1) /\ w' = w9) := hw9
 have HLe : Hid (Calls tP 12 #[pT (some ⟨B, 0, none⟩), A E 1] w9 fun e w' => e = rT (A E (-4)) /\ w' = w9) := hl9
 clear hw9 hl9 hO9 hO7 hb9 cs7 hbw7 rd1 rd2 rd3 rd4 rd5 rd6 ct hb8
 go_upto_region 13 with fail
 go_wp2_with (first | (go_at_call 11; go_must (refine HW.out.mono ?_; rintro e w10 ⟨rfl, rfl⟩)) | (go_at_call 12; go_must (refine HLe.out.mono ?_; rintro e w10 ⟨rfl, rfl⟩)) | fail)
 go_ret
 exact ⟨rfl, hbw9⟩
end
end Go.Proofs.YtbimlalhodibjaaGreatDoor
