/-
 What a desk's Round returns, and what it writes. Conditions: the desk is right. Behind a round no gate has anything left over: it owes, or has nothing. No conditions but: at most twenty wait. What a gate spends in a round: what is left is what there was, and what it may, less what its events cost; it owes at most what one event z1r. No conditions. A program that does not ask the time makes the same of an event at any time; what comes of a hook's events hangs on that hook alone. No conditions. Nobody is left behind, on plain numbers: what hooks spend in all rounds together. Conditions: programs and events are right. What Event and Attach leave of a desk that is right: it is right again. Conditions: said. What lies in memory while HookFair counts: three numbers each of what hooks may, spent, at most spent, what came, what went; and the desk. Conditions: none. What HookFair counts while it goes through what came of a round. Conditions: said.
-/
import Derived.Test.YtbimlalhodibjaaGreatDoorJf23
set_option maxHeartbeats 40000000
open Go.Value renaming int → A
open Go.IntKind renaming i64 → E
open Go.RowKit.Below renaming alloc → bA, setCell → bS, drew → bD, refl → bF
set_option maxRecDepth 1000000
set_option linter.defProp false
set_option linter.unusedVariables false
set_option linter.unusedSimpArgs false
open Go.Ending renaming returned → rT
open Go.Value renaming pointer → pT
open Go.Obj renaming cells → cT
open Go.Proofs.Tryz renaming prog → tP
namespace Go.Proofs.YtbimlalhodibjaaGreatDoor
open Go.ChangeShapes Go.WideShapes Go.ChangeAt Go.RowKit
section
attribute [local simp] z00 z0d z07
structure Dn where
 k : Nat
 s : Sd
 v : Value
def Dn.cells (x : Dn) : List Value := [A E (x.k : Int), A E x.s.bf, A E x.s.num, x.v, A E x.s.steps]
def z2k (ds : List Dn) : List Value := (ds.map Dn.cells).flatten
def DnAt (w : World) (base : Nat) (v : Value) (ds : List Dn) : Prop := w.ownsRow base 77 5 v ds.length (z2k ds) /\ ∀ x, x ∈ ds -> w.ownsRow base 2 1 x.v x.s.out.length (x.s.out.map (Value.int .i64))
theorem DnAt.kept {w w' : World} {base B : Nat} {v : Value} {ds : List Dn} (h : DnAt w base v ds) (hk : Kept B w w') (hB : B < base) : DnAt w' base v ds :=
 ⟨World.ownsRow.kept h.1 hk (Or.inr fun e => by have := (World.ownsRow.lt h.1 _ e).1; omega), fun x hx => World.ownsRow.kept (h.2 x hx) hk (Or.inr fun e => by have := (World.ownsRow.lt (h.2 x hx) _ e).1; omega)⟩
theorem zDf {T : Nat -> Int} {time : Int} : ∀ (ps : List Pg) (s : Sd) (p : Pg), p ∈ (z08 T time ps s).2 -> ∃ q, q ∈ ps /\ p.sl = q.sl
 | [], s, p, h => absurd h (by simp [z08])
 | q :: ps, s, p, h => by
  rw [z08] at h
  by_cases c : (q.run T time).num = 0
  ·rw [if_pos c] at h
   rcases List.mem_cons.1 h with rfl | h
   ·exact ⟨q, mcS, rfl⟩
   ·obtain ⟨r, h1, h2⟩ := zDf ps _ p h
    exact ⟨r, mcO _ h1, h2⟩
  ·rw [if_neg c] at h
   rcases List.mem_cons.1 h with rfl | h
   ·exact ⟨q, mcS, rfl⟩
   ·exact ⟨p, mcO _ h, rfl⟩
def zC8 (n : Nat) (d : Dsk) : Prop := ∀ k, k < 3 -> ∀ p, p ∈ (d.g k).ps -> ∀ a l c, p.sl = .slice (some a) l c -> a.block < n
theorem zC8.ev {n k : Nat} {d : Dsk} {T : Nat -> Int} {rest : List (Nat -> Int)} (h : zC8 n d) (hk : k < 3) : zC8 n (evGo d k T rest).1 := fun j hj p hp a l c e => by
 have e0 : ((evGo d k T rest).1.g j) = if j = k then { d.g k with ps := (z08 T d.ran (d.g k).ps sd0).2, evs := rest, left := (d.g k).left - ((z08 T d.ran (d.g k).ps sd0).1.steps + 1) } else d.g j := rfl
 rw [e0] at hp
 by_cases c0 : j = k
 ·rw [if_pos c0] at hp
  obtain ⟨q, h1, h2⟩ := zDf _ _ p hp
  exact h k hk q h1 a l c (h2 ▸ e)
 ·rw [if_neg c0] at hp
  exact h j hj p hp a l c e
theorem zC8.left {n k : Nat} {d : Dsk} {x : Int} (h : zC8 n d) (hk : k < 3) : zC8 n (d.put k { d.g k with left := x }) := fun j hj p hp => by
 rw [z3r] at hp
 by_cases c0 : j = k
 ·rw [if_pos c0] at hp; exact h k hk p hp
 ·rw [if_neg c0] at hp; exact h j hj p hp
theorem DOk.low {w : World} {B : Nat} {d : Dsk} {M : Int} (h : DOk w B d M) : zC8 w.heap.size d := fun k hk p hp a l c e => by
 obtain ⟨bk, cap, e1, h1, -, -⟩ := (h.ps k hk p hp).lies
 rw [e1] at e
 cases e
 exact h1
theorem DOk.grown {w w' : World} {B n : Nat} {d : Dsk} {M : Int} {row : Option Nat} (h : DOk w B d M) (hg : w.grownBy w' row) (hr : ∀ b, row = some b -> n <= b) (hl : zC8 n d) (hB : B < n) : DOk w' B d M := by
 refine ⟨FnAt.block h.at_ (hg.block B h.at_.lt fun e => by have := hr _ e.symm; omega), fun k hk p hp => ?_, h.few, h.evs, h.told, h.may0, h.may1, h.left0, h.left1, h.last0, h.last1, h.ran0, h.ran1⟩
 have q := h.ps k hk p hp
 obtain ⟨bk, cap, e, h1, h2, h3⟩ := q.lies
 have hb := hl k hk p hp _ _ _ e
 exact ⟨⟨bk, cap, e, Nat.lt_of_lt_of_le h1 hg.size, h2, z33 h3 (hg.block bk h1 fun x => by have := hr _ x.symm; have hb' : bk < n := hb; omega)⟩, q.some, q.few, q.right, q.nums, q.tab, q.goes⟩
theorem zG3 {w : World} {b1 b2 n1 n2 z1 z2 : Nat} {e1 e2 : TypeId} {v1 v2 : Value} {xs1 xs2 : List Value} (h1 : w.ownsRow b1 e1 z1 v1 n1 xs1) (h2 : w.ownsRow b2 e2 z2 v2 n2 xs2) (he : e1 ≠ e2) : v1.ownBlock = none \/ v1.ownBlock ≠ v2.ownBlock := by
 rcases h1.2 with ⟨rfl, -⟩ | ⟨g, c, cur, rfl, -, hg, -⟩
 ·exact Or.inl rfl
 ·refine Or.inr fun e => ?_
  rcases h2.2 with ⟨rfl, -⟩ | ⟨g2, c2, cur2, rfl, -, hg2, -⟩
  ·exact absurd e (by simp [Value.ownBlock])
  ·have : g = g2 := by simpa [Value.ownBlock] using e
   rw [this, hg2] at hg
   have := Option.some.inj hg
   cases this
   exact he rfl
theorem zPl {w : World} {b b' n z : Nat} {e : TypeId} {v : Value} {xs : List Value} (h : w.ownsRow b e z v n xs) (hb : b' <= b) : w.ownsRow b' e z v n xs := by
 refine ⟨h.1, h.2.imp id fun x => ?_⟩
 obtain ⟨g, cap, cur, e1, e2, e3⟩ := x
 exact ⟨g, cap, cur, e1, by omega, e3⟩
theorem zH4 (l : List Dn) (x : Dn) : z2k (l ++ [x]) = z2k l ++ x.cells := by simp [z2k]
structure InSt (w : World) (B k : Nat) (d : Dsk) (M : Int) (ds0 : List Dn) (vd : Value) (wr : World) (f : Nat) : Prop where
 ex : ∃ d' ds, DOk wr B d' (M + 20 - f) /\ (d'.g k).evs.length <= f /\ z1y k 20 (z40 d k) [] = z1y k f d' (ds.map Dn.s) /\ Kept B w wr /\ DnAt wr w.heap.size vd (ds0 ++ ds) /\ (∀ x, x ∈ ds -> x.k = k) /\ ds.length + f <= 20 /\ zC8 w.heap.size d'
def z4j (B : Nat) (rn : Int) (V : World) : Prop := V.cell? ⟨B, 951, none⟩ = some (A E rn)
theorem zVd {w : World} {B : Nat} {d : Dsk} (h : z0k w B d) : z4j B d.ran w := (FnAt.at h 951 (by decide)).trans (congrArg some (zUp d))
theorem z5e {w : World} {B k : Nat} {d : Dsk} {x : Gt} {rn : Int} (hr : d.ran = rn) (h : z0k w B (d.put k x)) : z4j B rn w := by rw [<- hr]; exact zVd (d := d.put k x) h
theorem z4j.later {w w' : World} {B : Nat} {rn : Int} (h : z4j B rn w) (hB : B < w.heap.size) (hb : Below w.heap.size w w') : z4j B rn w' := (hb.cell (p := ⟨B, 951, none⟩) hB).trans h
theorem z4j.row {w : World} {B g : Nat} {rn : Int} (h : z4j B rn w) (hg : B ≠ g) (cs : Array Value) : z4j B rn (w.setRow g cs) := (World.cell?_of_block (a := ⟨B, 951, none⟩) (setRow_other w g B cs hg)).trans h
theorem zNu {d : Dsk} {k : Nat} {T : Nat -> Int} {rest : List (Nat -> Int)} (he : (d.g k).evs = T :: rest) : (d.g k).evs.length = rest.length + 1 := by rw [he]; rfl
def z0g : Nat -> Dsk -> Dsk × List (Nat × Sd)
 | 0, d => (d, [])
 | j + 1, d => ((z13 (z0g j d).1 j).1, (z0g j d).2 ++ (z13 (z0g j d).1 j).2.map fun s => (j, s))
structure zY1 (w : World) (B : Nat) (d : Dsk) (M : Int) (vd : Value) (wr : World) (j : Nat) : Prop where
 ex : ∃ d' ds, (z0g j d).1 = d' /\ DOk wr B d' (M + 20 * j) /\ Kept B w wr /\ DnAt wr w.heap.size vd ds /\ (ds.map fun x => (x.k, x.s)) = (z0g j d).2 /\ ds.length <= 20 * j /\ (∀ i, j <= i -> i < 3 -> (d'.g i).left <= 0) /\ zC8 w.heap.size d'
theorem zBh (d : Dsk) {k : Nat} (x : Int) (hk : k < 3) (j : Nat) (_ : j < 952) : (d.put k { d.g k with left := x }).cell j = if j = k * 317 + 316 then A E x else d.cell j := by
 rw [z6l d _ hk]
 by_cases c : k * 317 <= j /\ j < k * 317 + 317
 ·rw [if_pos c]
  obtain ⟨i, rfl⟩ : ∃ i, j = k * 317 + i := ⟨j - k * 317, by omega⟩
  rw [Nat.add_sub_cancel_left, z2l d hk (by omega)]
  unfold z1f
  dsimp only
  by_cases c1 : i < 154
  ·rw [if_pos c1, if_pos c1, if_neg (show ¬ k * 317 + i = k * 317 + 316 by omega)]
  rw [if_neg c1, if_neg c1]
  by_cases c2 : i < 314
  ·rw [if_pos c2, if_pos c2, if_neg (show ¬ k * 317 + i = k * 317 + 316 by omega)]
  rw [if_neg c2, if_neg c2]
  by_cases c3 : i = 314
  ·rw [if_pos c3, if_pos c3, if_neg (show ¬ k * 317 + i = k * 317 + 316 by omega)]
  rw [if_neg c3, if_neg c3]
  by_cases c4 : i = 315
  ·rw [if_pos c4, if_pos c4, if_neg (show ¬ k * 317 + i = k * 317 + 316 by omega)]
  ·rw [if_neg c4, if_pos (show k * 317 + i = k * 317 + 316 by omega)]
 ·rw [if_neg c, if_neg (show ¬ j = k * 317 + 316 by omega)]
theorem z68 {w : World} {B k : Nat} {d : Dsk} (hD : z0k w B d) (hk : k < 3) : w.cell? ⟨B, k * 317 + 316, none⟩ = some (A E (d.g k).left) := hD.gate hk (by decide)
theorem zF1 {w : World} {B k : Nat} {d : Dsk} (hD : z0k w B d) (hk : k < 3) : w.cell? ⟨B, k * 317 + 315, none⟩ = some (A E (d.g k).may) := hD.gate hk (by decide)
theorem zDe {w : World} {B k : Nat} {d : Dsk} (hD : z0k w B d) (hk : k < 3) : w.cell? ⟨B, k * 317 + 314, none⟩ = some (A E ((d.g k).evs.length : Int)) := hD.gate hk (by decide)
theorem DOk.left {w w' : World} {B k : Nat} {d : Dsk} {M x : Int} (h : DOk w B d M) (hk : k < 3) (h0 : -1601 <= x) (h1 : x <= 2000) (hkp : Kept B w w') (hD : z0k w' B (d.put k { d.g k with left := x })) : DOk w' B (d.put k { d.g k with left := x }) M := by
 refine ⟨hD, ?_, ?_, ?_, ?_, ?_, ?_, ?_, ?_, ?_, ?_, h.ran0, h.ran1⟩ <;> intro j hj <;> rw [z3r] <;> split
 ·exact fun p hp => (h.ps k hk p hp).kept hkp
 ·exact fun p hp => (h.ps j hj p hp).kept hkp
 ·exact h.few k hk
 ·exact h.few j hj
 ·exact h.evs k hk
 ·exact h.evs j hj
 ·exact h.told k hk
 ·exact h.told j hj
 ·exact h.may0 k hk
 ·exact h.may0 j hj
 ·exact h.may1 k hk
 ·exact h.may1 j hj
 ·exact h0
 ·exact h.left0 j hj
 ·exact h1
 ·exact h.left1 j hj
 ·exact h.last0 k hk
 ·exact h.last0 j hj
 ·exact h.last1 k hk
 ·exact h.last1 j hj
theorem zJd (k : Nat) : ∀ (f : Nat) (d : Dsk) (l : List Sd), ((d.g k).evs = [] \/ (d.g k).left <= 0) -> z1y k f d l = (d, l)
 | 0, d, l, _ => rfl
 | f + 1, d, l, h => by
  rw [z1y]
  cases he : (d.g k).evs with
  | nil => rfl
  | cons T rest =>
   dsimp only
   rw [if_neg]
   rcases h with h | h
   ·rw [he] at h; cases h
   ·omega
theorem z63 (k : Nat) : ∀ (f : Nat) (d : Dsk) (l : List Sd) (i : Nat), i ≠ k -> (z1y k f d l).1.g i = d.g i
 | 0, d, l, i, _ => rfl
 | f + 1, d, l, i, hi => by
  rw [z1y]
  cases he : (d.g k).evs with
  | nil => rfl
  | cons T rest =>
   dsimp only
   by_cases c : 0 < (d.g k).left
   ·rw [if_pos c, z63 k f _ _ i hi]
    exact if_neg hi
   ·rw [if_neg c]
theorem DOk.mono {w : World} {B : Nat} {d : Dsk} {M M' : Int} (h : DOk w B d M) (hm : M <= M') : DOk w B d M' := ⟨h.at_, h.ps, h.few, h.evs, h.told, h.may0, h.may1, h.left0, h.left1, h.last0, fun k hk => Int.le_trans (h.last1 k hk) hm, h.ran0, Int.le_trans h.ran1 hm⟩
theorem zA9 {wr wb : World} {B g base : Nat} {D : Dsk} {cs : Array Value} {vo : Value} {n : Nat} {xs : List Value} (hk : Kept B wr wb) (hg : wr.heap.size <= g) (hB : B < wr.heap.size) (hz : wb.heap[g]? = some (cT #[A E 0, A E 0, .slice none 0 0, A E 0] 75 (0, 0))) (hd : z0k wb B D) (ho : wb.ownsRow base 2 1 vo n xs) (hb : wr.heap.size <= base) (hne : vo.ownBlock = some g -> False) :
  Kept B wr (wb.setRow g cs) /\ (wb.setRow g cs).heap[g]? = some (cT cs 75 (0, 0)) /\ z0k (wb.setRow g cs) B D /\ (wb.setRow g cs).ownsRow wr.heap.size 2 1 vo n xs :=
 ⟨⟨hk.os, hk.tape, hk.output, by simpa [World.setRow] using hk.size, fun i hi hx => (setRow_other wb _ _ _ (by omega)).trans (hk.block i hi hx)⟩, setRow_heap wb g _ cs _ _ hz, FnAt.block hd (setRow_other wb g B cs (by omega)), z7j ho hb hne⟩
theorem zDs {w : World} {b : Nat} {e : TypeId} {z : Nat} {vo : Value} {n : Nat} {xs : List Value} {a c q : Int} (h : w.ownsRow b e z vo n xs) : (#[A E a, A E c, vo, A E q] : Array Value).all (·.oneCell') = true := by
 rcases rowShape h with ⟨rfl, -⟩ | ⟨g, cap, rfl⟩ <;> kernel_rfl
theorem z8d {o : Oper} {u : Act} {x y : Operand} {W : World} {g : Nat} {cs : Array Value} (hg : W.heap[g]? = some (cT #[A E 0, A E 0, .slice none 0 0, A E 0] 75 (0, 0))) (h1 : cs.all (·.oneCell') = true) (ho : o.op = .store 75 x y) (hx : u.eval x = pT (some ⟨g, 0, none⟩)) (hy : u.eval y = .agg cs) (hs : cs.size = 4) : (execOp u.eval o).run tP W = .ok .skip (W.setRow g cs) := by
 have hl := run_storeVar_row (P := tP) W g 75 75 _ cs hg (by rw [Tryz.infoSaid, hs]) (by rw [hs]; rfl) h1
 unfold execOp
 simp only [ho, hx, hy, Instr.storeAt, Instr.sureAddr, Sem.run_bind, Sem.run_pure, Result.andThen_ok, hl]
theorem zJv (d : Dsk) (x : Int) (j : Nat) (_ : j < 952) : ({ d with ran := x } : Dsk).cell j = if j = 951 then A E x else d.cell j := by
 unfold Dsk.cell
 dsimp only
 by_cases h : j < 951
 ·rw [if_pos h, if_pos h, if_neg (by omega)]
 ·rw [if_neg h, if_pos (by omega)]
theorem zMe (w : World) (cs : Array Value) (t : TypeId) : ∀ (j : Nat) u, cs.toList[j]? = some u -> (w.alloc (cT cs t)).cell? ((⟨w.heap.size, 0, none⟩ : Addr).add j) = some u := by
 intro j u hu
 rw [Addr.add_mid, Nat.zero_add, cell_of_row _ w.heap.size j cs t (0, 0) (heap_alloc_new w _)]
 simpa using hu
theorem Tryz.infoDn : (Tryz.prog.info? 77).map (fun i => (i.zero, i.size, i.bytes)) = some (some (.agg #[A E 0, A E 0, A E 0, .slice none 0 0, A E 0]), 5, 56) := by kernel_rfl
theorem zGn (B : Nat) (d : Dsk) (M : Int) (hM0 : 0 <= M) (hM : M <= 900000) (w : World) (HD : Hid (DOk w B d M)) (HZ : Hid (∀ k, k < 3 -> (d.g k).left <= 0)) :
  Calls tP 19 #[pT (some ⟨B, 0, none⟩)] w fun e w' => ∃ vd ds, e = rT vd /\ Kept B w w' /\ DOk w' B (z0g 3 d).1 (M + 60) /\ DnAt w' w.heap.size vd ds /\ (ds.map fun x => (x.k, x.s)) = (z0g 3 d).2 /\ ds.length <= 60 := by
 have hlt := HD.out.at_.lt
 have HO : Hid (zY1 w B d M (.slice none 0 0) w 0) := ⟨d, [], rfl, by simpa using HD.out, z1b _ _, ⟨World.ownsRow_nil _ _ _ _, fun x hx => absurd hx List.not_mem_nil⟩, rfl, Nat.zero_le _, fun i _ hi => HZ.out i hi, HD.out.low⟩
 go_enter Tryz.func19, Tryz.ntmps19
 go_upto_region 3 with fail
 go_loopw [3, 7] (fun vd jv wr => ∃ j : Nat, jv = A E j /\ j <= 3 /\ Hid (zY1 w B d M vd wr j)) (fun _ jv _ => 3 - (intOf jv).toNat)
 case atStart => exact ⟨0, rfl, by decide, HO.out⟩
 case round =>
  obtain ⟨k, rfl, hk3, H⟩ := hrel
  clear HO
  have hk0 : (0 : Int) <= (k : Int) := by omega
  by_cases hk : k < 3
  ·have hk' : (k : Int) < 3 := by omega
   obtain ⟨dj, ds0, HRT, hdo, hkp, hdn, hmap, hlen, hz, hlow⟩ := H.out.ex
   have HRT : Hid ((z0g k d).1 = dj) := HRT
   have HMAP : Hid ((ds0.map fun x => (x.k, x.s)) = (z0g k d).2) := hmap
   clear hmap
   have l0 := hz k (Nat.le_refl _) hk
   have l1 := hdo.left0 k hk
   have m0 := hdo.may0 k hk
   have m1 := hdo.may1 k hk
   obtain ⟨lf, HLF⟩ : ∃ lf, Hid ((dj.g k).left = lf) := ⟨_, rfl⟩
   obtain ⟨my, HMY⟩ : ∃ my, Hid ((dj.g k).may = my) := ⟨_, rfl⟩
   rw [HLF.out] at l0 l1
   rw [HMY.out] at m0 m1
   have e6 : IntKind.i64.wrap (lf + my) = lf + my := by rw [IntWalk.i64_left, z0f (by omega) (by omega)]
   have hK : Blk wr [(B, cT (Array.ofFn (n := 952) fun i => Dsk.cell dj i.1) 93 (0, 0))] wr := (Blk.nil (bF _ _)).cons hdo.at_
   have HDO : Hid (DOk wr B dj (M + 20 * (k : Int))) := hdo
   have HDN : Hid (DnAt wr w.heap.size u3 ds0) := hdn
   clear hdo hdn
   go_upto_region 6 with fail
   refine z0l (C := Blk wr [(B, cT (Array.ofFn (n := 952) fun i => Dsk.cell dj i.1) 93 (0, 0))]) (n0 := wr.heap.size) 11 [] [] (by kernel_rfl) (by kernel_rfl) (fun d _ _ _ _ h => by cases d <;> exact h) (Blk.stable _ _) (fun w2 h => h.1.size) hK.drew trivial ?_
   simp only [List.take_succ_cons, List.take_zero, List.drop_succ_cons, List.drop_zero, List.length_nil, Nat.reduceAdd]
   repeat (first
    | (refine z0i (by rfl) ?_; simp only [Act.put, siA, scZ, scS])
    | (refine z0a (by rfl) (v := ?_) ?_ ?_; rotate_left; (intro w2 hC; have hDk : z0k _ B dj := (hC.2 _ mcS); have c1 : World.cell? _ ⟨B, k * 317 + 316, none⟩ = some (A E lf) := (by have h := z68 hDk hk; rw [HLF.out] at h; exact h); have c2 : World.cell? _ ⟨B, k * 317 + 315, none⟩ = some (A E my) := (by have h := zF1 hDk hk; rw [HMY.out] at h; exact h); go_simp; try with_reducible rfl); simp only [Act.put, siA, scZ, scS]))
   refine z0r ?_
   intro w4 hC hB4
   have hDk : z0k _ B dj := (hC.2 _ mcS); have c1 : World.cell? _ ⟨B, k * 317 + 316, none⟩ = some (A E lf) := (by have h := z68 hDk hk; rw [HLF.out] at h; exact h); have c2 : World.cell? _ ⟨B, k * 317 + 315, none⟩ = some (A E my) := (by have h := zF1 hDk hk; rw [HMY.out] at h; exact h)
   have cf := FnAt.frozen hDk (k * 317 + 316)
   go_upto_region 7 with fail
   have hkp5 : Kept B w (w4.setCell ⟨B, k * 317 + 316, none⟩ (A E (lf + my))) := kept_set (z1w hkp hC.1) _ _
   have hk45 : Kept B wr (w4.setCell ⟨B, k * 317 + 316, none⟩ (A E (lf + my))) := kept_set (z0e hC.1 B) _ _
   have hd5 : z0k (w4.setCell ⟨B, k * 317 + 316, none⟩ (A E (lf + my))) B (z40 dj k) := by
    refine FnAt.ext (FnAt.set hDk (k * 317 + 316) _) fun j hj => ?_
    unfold z40
    rw [HLF.out, HMY.out]
    exact zBh dj (lf + my) hk j hj
   have HI : Hid (InSt w B k dj (M + 20 * k) ds0 u3 (w4.setCell ⟨B, k * 317 + 316, none⟩ (A E (lf + my))) 20) := by
    refine ⟨z40 dj k, [], ?_, ?_, rfl, hkp5, ?_, fun x hx => absurd hx List.not_mem_nil, by decide, hlow.left hk⟩
    ·have h := HDO.out.left (x := (dj.g k).left + (dj.g k).may) hk (by rw [HLF.out, HMY.out]; omega) (by rw [HLF.out, HMY.out]; omega) hk45 hd5
     rw [show M + 20 * (k : Int) + 20 - ((20 : Nat) : Int) = M + 20 * (k : Int) by omega]
     exact h
    ·have := HDO.out.evs k hk
     show ((z40 dj k).g k).evs.length <= 20
     unfold z40
     rw [z3r, if_pos rfl]
     exact this
    ·rw [List.append_nil]; exact HDN.out.kept hk45 hlt
   clear hC hDk c1 c2 cf hB4 hK hkp hkp5 hk45 hd5 HDO HDN e6
   generalize w4.setCell ⟨B, k * 317 + 316, none⟩ (A E (lf + my)) = w5 at HI ⊢
   go_loopw [3] (fun vd wi => ∃ f : Nat, f <= 20 /\ Hid (InSt w B k dj (M + 20 * k) ds0 vd wi f)) (fun _ wi => (intOf ((wi.cell? ⟨B, k * 317 + 314, none⟩).getD undef)).toNat)
   case atStart => exact ⟨20, Nat.le_refl _, HI.out⟩
   case round =>
    obtain ⟨f, hf20, HIN⟩ := hrel
    clear HI
    obtain ⟨d', ds, hdo, hev, hgo, hkp, hdn, hks, hdl, hlow'⟩ := HIN.out.ex
    have cW := zDe hdo.at_ hk
    have cL := z68 hdo.at_ hk
    obtain ⟨lv, HLV⟩ : ∃ lv, Hid ((d'.g k).left = lv) := ⟨_, rfl⟩
    rw [HLV.out] at cL
    have HGO : Hid (z1y k 20 (z40 dj k) [] = z1y k f d' (ds.map Dn.s)) := hgo
    clear hgo
    by_cases hst : (d'.g k).evs = [] \/ lv <= 0
    ·have HGS : Hid (z1y k 20 (z40 dj k) [] = (d', ds.map Dn.s)) := by have h := zJd k f d' (ds.map Dn.s) (by rw [HLV.out]; exact hst); rw [HGO.out]; exact h
     have hol : ∀ i, i ≠ k -> d'.g i = dj.g i := fun i hi => by
      have h := z63 k 20 (z40 dj k) [] i hi
      rw [HGS.out] at h
      rw [h]
      show (dj.put k _).g i = _
      rw [z3r, if_neg hi]
     have HDO : Hid (DOk wr B d' (M + 20 * ((k + 1 : Nat) : Int))) := hdo.mono (by omega)
     have HDN : Hid (DnAt wr w.heap.size u3 (ds0 ++ ds)) := hdn
     have hlv0 : -1601 <= lv := by have h := hdo.left0 k hk; rw [HLV.out] at h; exact h
     have HMM : Hid (((ds0 ++ ds).map fun x => (x.k, x.s)) = (z0g (k + 1) d).2) := by
      rw [z0g, List.map_append, HMAP.out, HRT.out]
      unfold z13
      rw [HGS.out]
      dsimp only
      rw [List.map_map]
      congr 1
      exact List.map_congr_left fun x hx => by rw [hks x hx]; rfl
     have hRR : (z0g (k + 1) d).1 = z4m d' k := by
      rw [z0g, HRT.out]
      unfold z13
      rw [HGS.out]
     have HRR : Hid ((z0g (k + 1) d).1 = z4m d' k) := hRR
     have hLL : (ds0 ++ ds).length <= 20 * (k + 1) := by rw [List.length_append]; omega
     have HLL : Hid ((ds0 ++ ds).length <= 20 * (k + 1)) := hLL
     clear hRR hLL
     have hfr := FnAt.frozen hdo.at_ (k * 317 + 316)
     have hdk := hdo.at_
     clear hdo hdn HGO
     by_cases hev0 : (d'.g k).evs = []
     ·have h0 : (d'.g k).evs.length = 0 := by rw [hev0]; rfl
      rw [h0] at cW
      have cW : wr.cell? ⟨B, k * 317 + 314, none⟩ = some (A E 0) := cW
      have HEV : Hid ((d'.g k).evs.length = 0) := h0
      clear hev0 h0 hst
      go_upto_region 14 with fail
      have hPO : z4m d' k = d'.put k { d'.g k with left := min lv 0 } := by unfold z4m; rw [if_pos HEV.out, HLV.out]
      have HPO : Hid (z4m d' k = d'.put k { d'.g k with left := min lv 0 }) := hPO
      have hk5 := kept_set hkp (k * 317 + 316) (A E (min lv 0))
      have hkx : Kept B wr (wr.setCell ⟨B, k * 317 + 316, none⟩ (A E (min lv 0))) := kept_set (z1b B wr) _ _
      have hd5 : z0k (wr.setCell ⟨B, k * 317 + 316, none⟩ (A E (min lv 0))) B (d'.put k { d'.g k with left := min lv 0 }) := FnAt.ext (FnAt.set hdk (k * 317 + 316) _) fun j hj => zBh d' _ hk j hj
      have HDO5 := HDO.out.left (x := min lv 0) hk (by omega) (by omega) hkx hd5
      have HDN5 := HDN.out.kept hkx hlt
      have HX : Hid (zY1 w B d M u3 (wr.setCell ⟨B, k * 317 + 316, none⟩ (A E (min lv 0))) (k + 1)) := by
       refine ⟨_, ds0 ++ ds, by rw [HRR.out, HPO.out], HDO5, hk5, HDN5, HMM.out, HLL.out, fun i h1 h2 => ?_, hlow'.left hk⟩
       rw [z3r, if_neg (by omega), hol i (by omega)]
       exact hz i (by omega) h2
      clear hPO hk5 hkx hd5 HDO5 HDN5
      go_wp2_with fail
      go_roundw
      case rel => exact ⟨k + 1, by go_num, by omega, HX.out⟩
      case measure => simp [intOf]; omega
     ·have hlv1 : lv <= 0 := hst.resolve_left hev0
      obtain ⟨m, HMm⟩ : ∃ m, Hid ((d'.g k).evs.length = m + 1) := ⟨(d'.g k).evs.length - 1, by have : (d'.g k).evs.length ≠ 0 := fun h => hev0 (List.eq_nil_of_length_eq_zero h); show _ = _; omega⟩
      rw [HMm.out] at cW
      have cW : wr.cell? ⟨B, k * 317 + 314, none⟩ = some (A E ((m : Int) + 1)) := cW
      have t1 : decide (0 < (m : Int) + 1) = true := decide_eq_true (by omega)
      have t2 : decide (0 < lv) = false := decide_eq_false (by omega)
      have t3 : ((m : Int) + 1 == 0) = false := by simp; omega
      have hPO : z4m d' k = d' := by unfold z4m; rw [if_neg (by rw [HMm.out]; omega)]
      have HPO : Hid (z4m d' k = d') := hPO
      clear hPO
      clear hev0 hst
      go_wp2_with fail
      go_roundw
      case rel =>
       refine ⟨k + 1, by go_num, by omega, ⟨d', ds0 ++ ds, by rw [HRR.out, HPO.out], HDO.out, hkp, HDN.out, HMM.out, HLL.out, fun i h1 h2 => ?_, hlow'⟩⟩
       rw [hol i (by omega)]
       exact hz i (by omega) h2
      case measure => simp [intOf]; omega
    ·obtain ⟨T, rest, he⟩ : ∃ T rest, (d'.g k).evs = T :: rest := by
      cases h : (d'.g k).evs with
      | nil => exact absurd (Or.inl h) hst
      | cons T r => exact ⟨T, r, rfl⟩
     have hlv : 0 < lv := by have : ¬ lv <= 0 := fun h => hst (Or.inr h); omega
     have HE : Hid ((d'.g k).evs = T :: rest) := he
     obtain ⟨m, HMm⟩ : ∃ m, Hid (rest.length = m) := ⟨_, rfl⟩
     have hml : (d'.g k).evs.length = m + 1 := by rw [zNu he, HMm.out]
     rw [hml] at cW hev
     clear he hst
     have hm20 : m < 20 := by omega
     have cW : wr.cell? ⟨B, k * 317 + 314, none⟩ = some (A E ((m : Int) + 1)) := cW
     have t1 : decide (0 < (m : Int) + 1) = true := decide_eq_true (by omega)
     have t2 : decide (0 < lv) = true := by simpa using hlv
     have hlw := hdo.at_.lt
     obtain ⟨rn, HRN⟩ : ∃ rn, Hid (d'.ran = rn) := ⟨_, rfl⟩
     have hS0 : z4j B rn wr := by have h := zVd hdo.at_; rw [HRN.out] at h; exact h
     have HDO : Hid (DOk wr B d' (M + 20 * k + 20 - f)) := hdo
     have HDN : Hid (DnAt wr w.heap.size u3 (ds0 ++ ds)) := hdn
     have hdk := hdo.at_
     clear hdo hdn
     go_upto_region 8 with fail
     have HCW : Hid (wr.cell? ⟨B, k * 317 + 314, none⟩ = some (A E ((m : Int) + 1))) := cW
     clear cW cL t1 t2
     have HT : Hid (∀ i, i < 8 -> In64 (T i)) := HDO.out.told k hk T (by rw [HE.out]; exact mcS)
     have HTI : Hid (In64 rn) := by have h0 := HDO.out.ran0; have h1 := HDO.out.ran1; rw [HRN.out] at h0 h1; exact ⟨by omega, by omega⟩
     have hnx : ∀ W : World, z0k W B d' -> Calls tP 39 #[pT (some ⟨B, k * 317, none⟩)] W fun e w' => e = rT (.agg (z0o T)) /\ Kept B W w' /\ z0k w' B (d'.put k { d'.g k with evs := rest }) := fun W hW => zU7 B k m hk d' T rest W hW HE.out HMm.out hm20 HDO.out.one
     have hru : ∀ W : World, Kept B wr W -> z0k W B (d'.put k { d'.g k with evs := rest }) -> Calls tP 30 #[pT (some ⟨B, k * 317, none⟩), .agg (z0o T), A E rn] W fun e w' => ∃ v, e = rT v /\ ∃ vo, v = .agg #[A E (z08 T rn (d'.g k).ps sd0).1.bf, A E (z08 T rn (d'.g k).ps sd0).1.num, vo, A E (z08 T rn (d'.g k).ps sd0).1.steps] /\ Kept B W w' /\ z0k w' B (d'.put k { d'.g k with ps := (z08 T rn (d'.g k).ps sd0).2, evs := rest }) /\ w'.ownsRow (W.heap.size + 1 + 1 + 1) 2 1 vo (z08 T rn (d'.g k).ps sd0).1.out.length ((z08 T rn (d'.g k).ps sd0).1.out.map (Value.int .i64)) := by
      intro W hkW hW
      have hps : ((d'.put k { d'.g k with evs := rest }).g k).ps = (d'.g k).ps := by rw [z3r, if_pos rfl]
      have h := zWr B k hk (d'.put k { d'.g k with evs := rest }) T rn W hW (by rw [hps]; exact HDO.out.few k hk) (by intro p hp; rw [hps] at hp; exact (HDO.out.ps k hk p hp).kept hkW) HT HTI
      rw [hps, zPd] at h
      exact h.mono fun e w' ⟨vo, h1, h2, h3, h4⟩ => ⟨_, h1, vo, rfl, h2, by rw [zCn] at h3; exact h3, h4⟩
     go_cut [6] (fun s6 wx => Hid (∃ g vo, s6 = pT (some ⟨g, 0, none⟩) /\ Kept B wr wx /\ wr.heap.size <= g /\ wx.heap[g]? = some (cT #[A E (z08 T rn (d'.g k).ps sd0).1.bf, A E (z08 T rn (d'.g k).ps sd0).1.num, vo, A E (z08 T rn (d'.g k).ps sd0).1.steps] 75 (0, 0)) /\ z0k wx B (d'.put k { d'.g k with ps := (z08 T rn (d'.g k).ps sd0).2, evs := rest }) /\ wx.ownsRow wr.heap.size 2 1 vo (z08 T rn (d'.g k).ps sd0).1.out.length ((z08 T rn (d'.g k).ps sd0).1.out.map (Value.int .i64))))
     case first =>
      have hS : z4j B rn wr.drew := hS0
      refine wp_region_held_drew (S := z4j B rn) (by kernel_rfl) hS fun _ => ?_
      change wpAnyH _ _ _ _ _ 12 (Array.replicate 12 false) _ _
      refine z0x (i := 0) (some 38) (pT (some ⟨B, k * 317, none⟩)) rfl rfl (by kernel_rfl) (by kernel_rfl) (by kernel_rfl) (fun _ _ _ h => h) (by rfl) (fun V hV => by go_simp; try rfl) hS ?_
      simp only [Act.put, siA, scZ, scS]
      refine z0x (i := 1) (some 39) (pT (some ⟨B, k * 317, none⟩)) rfl rfl (by kernel_rfl) (by kernel_rfl) (by kernel_rfl) (fun _ _ _ h => h) (by rfl) (fun V hV => by go_simp; try rfl) hS ?_
      simp only [Act.put, siA, scZ, scS]
      refine z0x (i := 2) (some 40) (pT (some ⟨B, k * 317, none⟩)) rfl rfl (by kernel_rfl) (by kernel_rfl) (by kernel_rfl) (fun _ _ _ h => h) (by rfl) (fun V hV => by go_simp; try rfl) hS ?_
      simp only [Act.put, siA, scZ, scS]
      refine z0x (i := 3) (some 41) (pT (some ⟨B, k * 317, none⟩)) rfl rfl (by kernel_rfl) (by kernel_rfl) (by kernel_rfl) (fun _ _ _ h => h) (by rfl) (fun V hV => by go_simp; try rfl) hS ?_
      simp only [Act.put, siA, scZ, scS]
      refine z0x (i := 5) (some 43) (pT (some ⟨B, 0, none⟩)) rfl rfl (by kernel_rfl) (by kernel_rfl) (by kernel_rfl) (fun _ _ _ h => h) (by rfl) (fun V hV => by go_simp; try rfl) hS ?_
      simp only [Act.put, siA, scZ, scS]
      refine z0x (i := 6) (some 44) (pT (some ⟨B, 0, none⟩)) rfl rfl (by kernel_rfl) (by kernel_rfl) (by kernel_rfl) (fun _ _ _ h => h) (by rfl) (fun V hV => by go_simp; try rfl) hS ?_
      simp only [Act.put, siA, scZ, scS]
      refine z0x (i := 7) (some 45) (pT (some ⟨B, 951, none⟩)) rfl rfl (by kernel_rfl) (by kernel_rfl) (by kernel_rfl) (fun _ _ _ h => h) (by rfl) (fun V hV => by go_simp; try rfl) hS ?_
      simp only [Act.put, siA, scZ, scS]
      refine z0x (i := 8) (some 46) (A E rn) rfl rfl (by kernel_rfl) (by kernel_rfl) (by kernel_rfl) (fun _ _ _ h => h) (by rfl) (fun V hV => by have c2 : V.cell? ⟨B, 951, none⟩ = some (A E rn) := hV; go_simp; try rfl) hS ?_
      simp only [Act.put, siA, scZ, scS]
      have hk0 : Kept B wr wr.drew := z1c (z1b B wr)
      have hd0 : z0k wr.drew B d' := hdk
      have hlw0 : B < wr.drew.heap.size := hlw
      have hsz0 : wr.heap.size <= wr.drew.heap.size := Nat.le_refl _
      generalize wr.drew = w0 at hk0 hd0 hlw0 hsz0 hS ⊢
      refine wpAnyH_ready (rs := [4, 10]) (by kernel_rfl) (by simp) ?_
      refine zFl (some 42) 39 #[pT (some ⟨B, k * 317, none⟩)] rfl rfl (by rfl) (by go_simp; try rfl) ?_ (z6p (some 6) (pT (some ⟨w0.heap.size, 0, none⟩)) (w0.alloc (cT #[A E 0, A E 0, .slice none 0 0, A E 0] 75)) rfl rfl (by rfl) (by go_simp; try rfl) (z4j.later hS hlw0 ((bF _ _).alloc (Nat.le_refl _) _)) ?_ AllReadyH.nil)
      ·refine (hnx w0 hd0).mono ?_
       rintro e wa ⟨rfl, hkwa, hdwa⟩
       have hSwa : z4j B rn wa := z5e HRN.out hdwa
       have hkwwa := z1t hk0 hkwa
       refine ⟨_, rfl, hSwa, ?_⟩
       simp only [Act.put, siA, scZ, scS]
       refine wpAnyH_ready (rs := [9, 10]) (by kernel_rfl) (by simp) ?_
       refine zFl (some 47) 30 #[pT (some ⟨B, k * 317, none⟩), .agg (z0o T), A E rn] rfl rfl (by rfl) (by go_simp; try rfl) ?_ (z6p (some 6) (pT (some ⟨wa.heap.size, 0, none⟩)) (wa.alloc (cT #[A E 0, A E 0, .slice none 0 0, A E 0] 75)) rfl rfl (by rfl) (by go_simp; try rfl) (z4j.later hSwa hdwa.lt ((bF _ _).alloc (Nat.le_refl _) _)) ?_ AllReadyH.nil)
       ·refine (hru wa hkwwa hdwa).mono ?_
        rintro e wb ⟨v, rfl, vo, rfl, hkwb, hdwb, howb⟩
        have hSwb : z4j B rn wb := z5e HRN.out hdwb
        have hkwwb := z1t hkwwa hkwb
        refine ⟨_, rfl, hSwb, ?_⟩
        simp only [Act.put, siA, scZ, scS]
        refine wpAnyH_ready (rs := [10]) (by kernel_rfl) (by simp) ?_
        refine z6p (some 6) (pT (some ⟨wb.heap.size, 0, none⟩)) (wb.alloc (cT #[A E 0, A E 0, .slice none 0 0, A E 0] 75)) rfl rfl (by rfl) (by go_simp; try rfl) (z4j.later hSwb hdwb.lt ((bF _ _).alloc (Nat.le_refl _) _)) ?_ AllReadyH.nil
        simp only [Act.put, siA, scZ, scS]
        have hzc : (wb.alloc (cT #[A E 0, A E 0, .slice none 0 0, A E 0] 75)).heap[wb.heap.size]? = some (cT #[A E 0, A E 0, .slice none 0 0, A E 0] 75 (0, 0)) := heap_alloc_new wb _
        have hkc := z0j hkwwb (cT #[A E 0, A E 0, .slice none 0 0, A E 0] 75)
        have hdc := FnAt.block hdwb (heap_alloc_old wb (cT #[A E 0, A E 0, .slice none 0 0, A E 0] 75) hdwb.lt)
        have hlc : wr.heap.size <= wb.heap.size := hkwwb.size
        have hxc : (wb.alloc (cT #[A E 0, A E 0, .slice none 0 0, A E 0] 75)).heap.size = wb.heap.size + 1 := by simp
        have hD := zA9 (cs := #[A E (z08 T rn (d'.g k).ps sd0).1.bf, A E (z08 T rn (d'.g k).ps sd0).1.num, vo, A E (z08 T rn (d'.g k).ps sd0).1.steps]) hkc hlc hlw hzc hdc (howb.alloc (cT #[A E 0, A E 0, .slice none 0 0, A E 0] 75)) (by have := hkwwa.size; omega) (fun e => by have := (World.ownsRow.lt howb _ e).2; omega)
        refine wpAnyH_ready (rs := [11]) (by kernel_rfl) (by simp) ?_
        refine z5x ((wb.alloc (cT #[A E 0, A E 0, .slice none 0 0, A E 0] 75)).setRow wb.heap.size #[A E (z08 T rn (d'.g k).ps sd0).1.bf, A E (z08 T rn (d'.g k).ps sd0).1.num, vo, A E (z08 T rn (d'.g k).ps sd0).1.steps]) rfl rfl (by rfl) (z8d (g := wb.heap.size) hzc (zDs (howb.alloc (cT #[A E 0, A E 0, .slice none 0 0, A E 0] 75))) rfl rfl rfl rfl) (z4j.row (z5e HRN.out hdc) (by omega) _) ?_ AllReadyH.nil
        simp only [Act.put, siA, scZ, scS]
        refine wpAnyH_done (by kernel_rfl) ?_ _
        go_wp2_with fail
        go_meet
        exact ⟨wb.heap.size, vo, rfl, hD.1, hlc, hD.2.1, hD.2.2.1, hD.2.2.2⟩
       ·simp only [Act.put, siA, scZ, scS]
        have hzc : (wa.alloc (cT #[A E 0, A E 0, .slice none 0 0, A E 0] 75)).heap[wa.heap.size]? = some (cT #[A E 0, A E 0, .slice none 0 0, A E 0] 75 (0, 0)) := heap_alloc_new wa _
        have hkc := z0j hkwwa (cT #[A E 0, A E 0, .slice none 0 0, A E 0] 75)
        have hdc := FnAt.block hdwa (heap_alloc_old wa (cT #[A E 0, A E 0, .slice none 0 0, A E 0] 75) hdwa.lt)
        have hlc : wr.heap.size <= wa.heap.size := hkwwa.size
        have hxc : (wa.alloc (cT #[A E 0, A E 0, .slice none 0 0, A E 0] 75)).heap.size = wa.heap.size + 1 := by simp
        refine wpAnyH_ready (rs := [9]) (by kernel_rfl) (by simp) ?_
        refine zFl (some 47) 30 #[pT (some ⟨B, k * 317, none⟩), .agg (z0o T), A E rn] rfl rfl (by rfl) (by go_simp; try rfl) ?_ AllReadyH.nil
        refine (hru (wa.alloc (cT #[A E 0, A E 0, .slice none 0 0, A E 0] 75)) hkc hdc).mono ?_
        rintro e wb ⟨v, rfl, vo, rfl, hkwb, hdwb, howb⟩
        have hSwb : z4j B rn wb := z5e HRN.out hdwb
        have hkwwb := z1t hkc hkwb
        refine ⟨_, rfl, hSwb, ?_⟩
        simp only [Act.put, siA, scZ, scS]
        have hzb := (hkwb.block wa.heap.size (by omega) (fun e => by have := Option.some.inj e; have := hdwa.lt; omega)).trans hzc
        have hD := zA9 (cs := #[A E (z08 T rn (d'.g k).ps sd0).1.bf, A E (z08 T rn (d'.g k).ps sd0).1.num, vo, A E (z08 T rn (d'.g k).ps sd0).1.steps]) hkwwb hlc hlw hzb hdwb howb (by omega) (fun e => by have := (World.ownsRow.lt howb _ e).1; omega)
        refine wpAnyH_ready (rs := [11]) (by kernel_rfl) (by simp) ?_
        refine z5x (wb.setRow wa.heap.size #[A E (z08 T rn (d'.g k).ps sd0).1.bf, A E (z08 T rn (d'.g k).ps sd0).1.num, vo, A E (z08 T rn (d'.g k).ps sd0).1.steps]) rfl rfl (by rfl) (z8d (g := wa.heap.size) hzb (zDs howb) rfl rfl rfl rfl) (z4j.row (z5e HRN.out hdwb) (by omega) _) ?_ AllReadyH.nil
        simp only [Act.put, siA, scZ, scS]
        refine wpAnyH_done (by kernel_rfl) ?_ _
        go_wp2_with fail
        go_meet
        exact ⟨wa.heap.size, vo, rfl, hD.1, hlc, hD.2.1, hD.2.2.1, hD.2.2.2⟩
      ·simp only [Act.put, siA, scZ, scS]
       have hzc : (w0.alloc (cT #[A E 0, A E 0, .slice none 0 0, A E 0] 75)).heap[w0.heap.size]? = some (cT #[A E 0, A E 0, .slice none 0 0, A E 0] 75 (0, 0)) := heap_alloc_new w0 _
       have hkc := z0j hk0 (cT #[A E 0, A E 0, .slice none 0 0, A E 0] 75)
       have hdc := FnAt.block hd0 (heap_alloc_old w0 (cT #[A E 0, A E 0, .slice none 0 0, A E 0] 75) hd0.lt)
       have hlc : wr.heap.size <= w0.heap.size := hk0.size
       have hxc : (w0.alloc (cT #[A E 0, A E 0, .slice none 0 0, A E 0] 75)).heap.size = w0.heap.size + 1 := by simp
       refine wpAnyH_ready (rs := [4]) (by kernel_rfl) (by simp) ?_
       refine zFl (some 42) 39 #[pT (some ⟨B, k * 317, none⟩)] rfl rfl (by rfl) (by go_simp; try rfl) ?_ AllReadyH.nil
       refine (hnx (w0.alloc (cT #[A E 0, A E 0, .slice none 0 0, A E 0] 75)) hdc).mono ?_
       rintro e wa ⟨rfl, hkwa, hdwa⟩
       have hSwa : z4j B rn wa := z5e HRN.out hdwa
       have hkwwa := z1t hkc hkwa
       refine ⟨_, rfl, hSwa, ?_⟩
       simp only [Act.put, siA, scZ, scS]
       have hza := (hkwa.block w0.heap.size (by omega) (fun e => by have := Option.some.inj e; omega)).trans hzc
       have hsa : w0.heap.size < wa.heap.size := (Array.getElem?_eq_some_iff.1 hza).1
       refine wpAnyH_ready (rs := [9]) (by kernel_rfl) (by simp) ?_
       refine zFl (some 47) 30 #[pT (some ⟨B, k * 317, none⟩), .agg (z0o T), A E rn] rfl rfl (by rfl) (by go_simp; try rfl) ?_ AllReadyH.nil
       refine (hru wa hkwwa hdwa).mono ?_
       rintro e wb ⟨v, rfl, vo, rfl, hkwb, hdwb, howb⟩
       have hSwb : z4j B rn wb := z5e HRN.out hdwb
       have hkwwb := z1t hkwwa hkwb
       refine ⟨_, rfl, hSwb, ?_⟩
       simp only [Act.put, siA, scZ, scS]
       have hzb := (hkwb.block w0.heap.size hsa (fun e => by have := Option.some.inj e; omega)).trans hza
       have hD := zA9 (cs := #[A E (z08 T rn (d'.g k).ps sd0).1.bf, A E (z08 T rn (d'.g k).ps sd0).1.num, vo, A E (z08 T rn (d'.g k).ps sd0).1.steps]) hkwwb hlc hlw hzb hdwb howb (by omega) (fun e => by have := (World.ownsRow.lt howb _ e).1; omega)
       refine wpAnyH_ready (rs := [11]) (by kernel_rfl) (by simp) ?_
       refine z5x (wb.setRow w0.heap.size #[A E (z08 T rn (d'.g k).ps sd0).1.bf, A E (z08 T rn (d'.g k).ps sd0).1.num, vo, A E (z08 T rn (d'.g k).ps sd0).1.steps]) rfl rfl (by rfl) (z8d (g := w0.heap.size) hzb (zDs howb) rfl rfl rfl rfl) (z4j.row (z5e HRN.out hdwb) (by omega) _) ?_ AllReadyH.nil
       simp only [Act.put, siA, scZ, scS]
       refine wpAnyH_done (by kernel_rfl) ?_ _
       go_wp2_with fail
       go_meet
       exact ⟨w0.heap.size, vo, rfl, hD.1, hlc, hD.2.1, hD.2.2.1, hD.2.2.2⟩
     clear hnx hru hS0 hdk
     obtain ⟨g, vo, rfl, hkc, hgl, hgr, hdc, hoc⟩ := hcut.out
     clear hcut
     obtain ⟨so, HSO⟩ : ∃ so, Hid ((z08 T rn (d'.g k).ps sd0).1 = so) := ⟨_, rfl⟩
     rw [HSO.out] at hgr hoc
     obtain ⟨qa, qc, rfl⟩ := z4c hoc
     have hbd : 0 <= so.steps /\ so.steps <= 1600 := by
      obtain ⟨-, c2, c3, -, -⟩ := z49 (w := wr) (B := B) HT.out HTI.out (d'.g k).ps sd0 (HDO.out.ps k hk)
      rw [HSO.out] at c2 c3
      have := HDO.out.few k hk
      have c2' : 0 <= so.steps := c2
      have c3' : so.steps <= 0 + 200 * ((d'.g k).ps.length : Int) := c3
      omega
     have hrb : 0 <= rn /\ rn <= 1000000 := by have h0 := HDO.out.ran0; have h1 := HDO.out.ran1; rw [HRN.out] at h0 h1; omega
     have hlb : lv <= 2000 := by have h := HDO.out.left1 k hk; rw [HLV.out] at h; exact h
     have cR : wc.cell? ⟨B, 951, none⟩ = some (A E rn) := z5e HRN.out hdc
     have fR := FnAt.frozen hdc 951
     have e9 : IntKind.i64.wrap (rn + 1) = rn + 1 := by rw [IntWalk.i64_left, z0f (by omega) (by omega)]
     go_upto_region 10 with fail
     clear cR fR
     obtain ⟨d3, HD3⟩ : ∃ d3 : Dsk, Hid (({ (d'.put k { d'.g k with ps := (z08 T rn (d'.g k).ps sd0).2, evs := rest }) with ran := rn + 1 } : Dsk) = d3) := ⟨_, rfl⟩
     have HL3 : Hid ((d3.g k).left = lv) := by rw [<- HD3.out, <- HLV.out]; show ((d'.put k { d'.g k with ps := (z08 T rn (d'.g k).ps sd0).2, evs := rest }).g k).left = (d'.g k).left; rw [z3r, if_pos rfl]
     have hd9 : z0k (wc.setCell ⟨B, 951, none⟩ (A E (rn + 1))) B d3 := by
      rw [<- HD3.out]
      exact FnAt.ext (FnAt.set hdc 951 _) fun j hj => zJv (d'.put k { d'.g k with ps := (z08 T rn (d'.g k).ps sd0).2, evs := rest }) (rn + 1) j hj
     have hk9 := kept_set hkc 951 (A E (rn + 1))
     have hg9 := (heap_setCell_other wc ⟨B, 951, none⟩ g (A E (rn + 1)) (show g ≠ B by omega)).trans hgr
     have ho9 := World.ownsRow.kept hoc (kept_set (z1b B wc) 951 (A E (rn + 1))) (Or.inr fun e => by have := (World.ownsRow.lt hoc _ e).1; omega)
     clear hdc hkc hgr hoc
     generalize wc.setCell ⟨B, 951, none⟩ (A E (rn + 1)) = w9 at hd9 hk9 hg9 ho9 ⊢
     have ea : IntKind.i64.wrap (so.steps + 1) = so.steps + 1 := by rw [IntWalk.i64_left, z0f (by omega) (by omega)]
     have eb : IntKind.i64.wrap (lv - (so.steps + 1)) = lv - (so.steps + 1) := by rw [IntWalk.i64_left, z0f (by omega) (by omega)]
     have hK9 : Blk w9 [(g, cT #[A E so.bf, A E so.num, (.slice qa so.out.length qc), A E so.steps] 75 (0, 0)), (B, cT (Array.ofFn (n := 952) fun i => Dsk.cell d3 i.1) 93 (0, 0))] w9 := ((Blk.nil (bF _ _)).cons hd9).cons hg9
     refine z0l (C := Blk w9 [(g, cT #[A E so.bf, A E so.num, (.slice qa so.out.length qc), A E so.steps] 75 (0, 0)), (B, cT (Array.ofFn (n := 952) fun i => Dsk.cell d3 i.1) 93 (0, 0))]) (n0 := w9.heap.size) 10 [] [] (by kernel_rfl) (by kernel_rfl) (fun d _ _ _ _ h => by cases d <;> exact h) (Blk.stable _ _) (fun w2 h => h.1.size) hK9.drew trivial ?_
     simp only [List.take_succ_cons, List.take_zero, List.drop_succ_cons, List.drop_zero, List.length_nil, Nat.reduceAdd]
     repeat (first
      | (refine z0i (by rfl) ?_; simp only [Act.put, siA, scZ, scS])
      | (refine z0a (by rfl) (v := ?_) ?_ ?_; rotate_left; (intro w2 hC; have hDk : z0k _ B d3 := (hC.2 _ (mcO _ mcS)); have c1 : World.cell? _ ⟨B, k * 317 + 316, none⟩ = some (A E lv) := (by have h := z68 hDk hk; rw [HL3.out] at h; exact h); have c2 : World.cell? _ ⟨g, 3, none⟩ = some (A E so.steps) := (cell_of_row _ _ 3 _ _ _ (hC.2 _ mcS)).trans rfl; go_simp; try with_reducible rfl); simp only [Act.put, siA, scZ, scS]))
     refine z0r ?_
     intro w10 hC hB10
     have hDk : z0k _ B d3 := (hC.2 _ (mcO _ mcS)); have c1 : World.cell? _ ⟨B, k * 317 + 316, none⟩ = some (A E lv) := (by have h := z68 hDk hk; rw [HL3.out] at h; exact h); have c2 : World.cell? _ ⟨g, 3, none⟩ = some (A E so.steps) := (cell_of_row _ _ 3 _ _ _ (hC.2 _ mcS)).trans rfl
     have cf := FnAt.frozen hDk (k * 317 + 316)
     go_upto_region 11 with fail
     have hdE : z0k (w10.setCell ⟨B, k * 317 + 316, none⟩ (A E (lv - (so.steps + 1)))) B (evGo d' k T rest).1 := by
      have h : z0k (w10.setCell ⟨B, k * 317 + 316, none⟩ (A E (lv - (so.steps + 1)))) B (d3.put k { d3.g k with left := (lv - (so.steps + 1)) }) := FnAt.ext (FnAt.set hDk (k * 317 + 316) _) fun j hj => zBh d3 _ hk j hj
      have e : d3.put k { d3.g k with left := (lv - (so.steps + 1)) } = (evGo d' k T rest).1 := by
       rw [<- HD3.out]
       unfold evGo
       rw [HRN.out, HSO.out, HLV.out]
       unfold Dsk.put
       dsimp only
       congr 1
       funext i
       by_cases c : i = k
       ·rw [if_pos c, if_pos c, if_pos rfl]
       ·rw [if_neg c, if_neg c, if_neg c]
      rw [e] at h; exact h
     have hkE := kept_set (z1w hk9 hC.1) (k * 317 + 316) (A E (lv - (so.steps + 1)))
     have hgE := (heap_setCell_other w10 ⟨B, k * 317 + 316, none⟩ g (A E (lv - (so.steps + 1))) (show g ≠ B by omega)).trans (hC.2 _ mcS)
     have hkx : Kept B w9 (w10.setCell ⟨B, k * 317 + 316, none⟩ (A E (lv - (so.steps + 1)))) := kept_set (z0e hC.1 B) _ _
     have hoE := World.ownsRow.kept ho9 hkx (Or.inr fun e => by have := (World.ownsRow.lt ho9 _ e).1; omega)
     clear hC hDk c1 c2 cf hB10 hK9 hd9 hk9 hg9 ho9 hkx e9 ea eb
     generalize w10.setCell ⟨B, k * 317 + 316, none⟩ (A E (lv - (so.steps + 1))) = w11 at hdE hkE hgE hoE ⊢
     have hDN := HDN.out.kept hkE hlt
     go_step
     (refine z03 rfl (u3) w11 (by go_simp; try rfl) ?_); simp only [Act.put, siA, scZ, scS]
     (refine z03 rfl (A E (k : Int)) w11 (by go_simp; try rfl) ?_); simp only [Act.put, siA, scZ, scS]
     refine wpList_load_row rfl 75 (.tmp 6) rfl g rfl 75 #[A E so.bf, A E so.num, .slice qa so.out.length qc, A E so.steps] (0, 0) _ hgE Tryz.underlying75 rfl Tryz.infoSaid ?_
     simp only [Act.put, siA, scZ, scS]
     refine wpList_buildTo rfl 77 #[(0, .tmp 66), (1, .tmp 67)] rfl (some 68) rfl #[A E (k : Int), A E so.bf, A E so.num, .slice qa so.out.length qc, A E so.steps] (by kernel_rfl) ?_
     simp only [Act.put, siA, scZ, scS]
     obtain ⟨i0, hi0, hz0, hz1, hz2⟩ := info_parts Tryz.infoDn
     refine wpList_buildSlice rfl 71 77 1 #[(0, .tmp 68)] rfl #[A E (k : Int), A E so.bf, A E so.num, .slice qa so.out.length qc, A E so.steps] i0 _ Tryz.underlying71 hi0 hz0 (by rw [hz1]; omega) (by rw [hz1]; omega) (by rw [hz1]; kernel_rfl) ?_
     simp only [Act.put, siA, scZ, scS]
     have hDa : DnAt (w11.alloc (cT #[A E (k : Int), A E so.bf, A E so.num, .slice qa so.out.length qc, A E so.steps] 77)) w.heap.size u3 (ds0 ++ ds) := ⟨hDN.1.alloc _, fun x hx => (hDN.2 x hx).alloc _⟩
     refine wpList_append_own (w11.alloc (cT #[A E (k : Int), A E so.bf, A E so.num, .slice qa so.out.length qc, A E so.steps] 77)) rfl (.tmp 65) (.tmp 69) 71 rfl w.heap.size 77 i0 _ 5 56 Tryz.underlying71 hi0 hz0 hz1 hz2 rfl (by decide) _ _ _ rfl hDa.1 ⟨w11.heap.size, 0, none⟩ 1 1 #[A E (k : Int), A E so.bf, A E so.num, .slice qa so.out.length qc, A E so.steps].toList rfl rfl (zMe w11 #[A E (k : Int), A E so.bf, A E so.num, .slice qa so.out.length qc, A E so.steps] 77) (by intro u hu; simp only [List.mem_cons, List.not_mem_nil, or_false] at hu; rcases hu with rfl | rfl | rfl | rfl | rfl <;> rfl) (by rw [List.length_append]; unfold maxLen; omega) (by rw [List.length_append]; omega) (by have := hkE.size; have := hkp.size; simp; omega) ?_
     intro v12 w12 ho12 hg12 _
     simp only [Act.put, siA, scZ, scS]
     obtain ⟨f', rfl⟩ : ∃ f', f = f' + 1 := ⟨f - 1, by omega⟩
     have hb12 : ∀ b, u3.ownBlock = some b -> w.heap.size <= b := fun b e => (World.ownsRow.lt hDa.1 b e).1
     have hdo11 : DOk w11 B (evGo d' k T rest).1 (M + 20 * k + 20 - (f' + 1 : Nat) + 1) := HDO.out.ev hk (by omega) HE.out (by rw [HLV.out]; exact hlv) hkE hdE
     have hdo12 : DOk w12 B (evGo d' k T rest).1 (M + 20 * k + 20 - f') := by
      have h := (hdo11.later ((bF _ _).alloc (Nat.le_refl _) (cT #[A E (k : Int), A E so.bf, A E so.num, .slice qa so.out.length qc, A E so.steps] 77))).grown hg12 hb12 (hlow'.ev hk) hlt
      rw [show M + 20 * (k : Int) + 20 - ((f' + 1 : Nat) : Int) + 1 = M + 20 * (k : Int) + 20 - (f' : Int) by omega] at h
      exact h
     have hkw : Kept B w (w11.alloc (cT #[A E (k : Int), A E so.bf, A E so.num, .slice qa so.out.length qc, A E so.steps] 77)) := z0j (z1t hkp hkE) _
     have hk12 : Kept B w w12 := ⟨hg12.os.trans hkw.os, hg12.tape.trans hkw.tape, hg12.output.trans hkw.output, Nat.le_trans hkw.size hg12.size, fun b hb hne => (hg12.block b (Nat.lt_of_lt_of_le hb hkw.size) fun e => by have := hb12 b e.symm; omega).trans (hkw.block b hb hne)⟩
     have HIX : Hid (InSt w B k dj (M + 20 * k) ds0 v12 w12 f') := by
      refine ⟨(evGo d' k T rest).1, ds ++ [⟨k, so, .slice qa so.out.length qc⟩], hdo12, ?_, ?_, hk12, ⟨?_, ?_⟩, ?_, ?_, hlow'.ev hk⟩
      ·show (((d'.put k _).g k).evs).length <= f'
       rw [z3r, if_pos rfl]
       show rest.length <= f'
       rw [HMm.out]; omega
      ·rw [HGO.out, z1y, HE.out]
       dsimp only
       rw [if_pos (by rw [HLV.out]; exact hlv), List.map_append]
       have e : (evGo d' k T rest).2 = so := by unfold evGo; rw [HRN.out, HSO.out]
       rw [e]
       rfl
      ·rw [<- List.append_assoc, zH4, List.length_append]; exact ho12
      ·intro x hx
       rw [<- List.append_assoc] at hx
       rcases List.mem_append.1 hx with hx | hx
       ·exact World.ownsRow.kept (hDa.2 x hx) hg12 (zG3 (hDa.2 x hx) hDa.1 (by decide))
       ·rw [List.mem_singleton.1 hx]
        exact World.ownsRow.kept ((zPl hoE hkp.size).alloc _) hg12 (zG3 ((zPl hoE hkp.size).alloc _) hDa.1 (by decide))
      ·intro x hx
       rcases List.mem_append.1 hx with hx | hx
       ·exact hks x hx
       ·rw [List.mem_singleton.1 hx]
      ·rw [List.length_append]; show ds.length + 1 + f' <= 20; omega
     have c12 := zDe hdo12.at_ hk
     have HC12 : Hid (w12.cell? ⟨B, k * 317 + 314, none⟩ = some (A E (m : Int))) := by
      have e : (((evGo d' k T rest).1.g k).evs) = rest := by show (((d'.put k _).g k).evs) = rest; rw [z3r, if_pos rfl]
      rw [e, HMm.out] at c12
      exact c12
     clear c12 hdo12 hdo11 hk12 hkw hDa hDN hoE hgE hkE hdE ho12 hg12
     go_wp2_with fail
     go_roundw
     case rel => exact ⟨f', by omega, HIX.out⟩
     case measure => rw [HC12.out, HCW.out]; simp [intOf]
  ·obtain rfl : k = 3 := by omega
   obtain ⟨d', ds, hd', hdo, hkp, hdn, hmap, hlen, -, -⟩ := H.out.ex
   go_wp2_with fail
   go_ret
   exact ⟨u3, ds, rfl, hkp, by rw [hd']; exact hdo, hdn, hmap, hlen⟩
end
theorem gateGo_end (k : Nat) : ∀ (f : Nat) (d : Dsk) (l : List Sd), (d.g k).evs.length <= f -> ((z1y k f d l).1.g k).evs = [] \/ ((z1y k f d l).1.g k).left <= 0
 | 0, d, l, h => Or.inl (List.eq_nil_of_length_eq_zero (Nat.le_zero.1 h))
 | f + 1, d, l, h => by
  rw [z1y]
  cases he : (d.g k).evs with
  | nil => exact Or.inl he
  | cons T rest =>
   dsimp only
   by_cases c : 0 < (d.g k).left
   ·rw [if_pos c]
    refine gateGo_end k f _ _ ?_
    show (((d.put k _).g k).evs).length <= f
    rw [z3r, if_pos rfl]
    rw [he, List.length_cons] at h
    show rest.length <= f
    omega
   ·rw [if_neg c]
    exact Or.inr (by show (d.g k).left <= 0; omega)
theorem zC4 (d : Dsk) (k : Nat) (h : (d.g k).evs.length <= 20) : ((z13 d k).1.g k).left <= 0 := by
 unfold z13
 dsimp only
 have h' : ((z40 d k).g k).evs.length <= 20 := by unfold z40; rw [z3r, if_pos rfl]; exact h
 rcases gateGo_end k 20 (z40 d k) [] h' with e | e
 ·unfold z4m
  rw [if_pos (by rw [e]; rfl), z3r, if_pos rfl]
  exact Int.min_le_right _ _
 ·unfold z4m
  split
  ·rw [z3r, if_pos rfl]; exact Int.min_le_right _ _
  ·exact e
theorem z4h (d : Dsk) (k i : Nat) (hi : i ≠ k) : (z13 d k).1.g i = d.g i := by
 unfold z13
 dsimp only
 have e : (z1y k 20 (z40 d k) []).1.g i = d.g i := by rw [z63 k 20 _ _ i hi]; unfold z40; rw [z3r, if_neg hi]
 unfold z4m
 split
 ·rw [z3r, if_neg hi]; exact e
 ·exact e
theorem z5d (d : Dsk) : ∀ (j i : Nat), j <= i -> (z0g j d).1.g i = d.g i
 | 0, i, _ => rfl
 | j + 1, i, h => by
  rw [z0g]
  dsimp only
  rw [z4h _ j i (by omega)]
  exact z5d d j i (by omega)
theorem z90 (d : Dsk) (hz : ∀ k, k < 3 -> (d.g k).left <= 0) (he : ∀ k, k < 3 -> (d.g k).evs.length <= 20) : ∀ j, j <= 3 -> ∀ k, k < 3 -> ((z0g j d).1.g k).left <= 0
 | 0, _, k, hk => hz k hk
 | j + 1, hj, k, hk => by
  rw [z0g]
  dsimp only
  by_cases c : k = j
  ·subst c
   refine zC4 _ k ?_
   rw [z5d d k k (Nat.le_refl _)]
   exact he k hk
  ·rw [z4h _ j k c]
   exact z90 d hz he j (by omega) k hk
def z1r : List Sd -> Int
 | [] => 0
 | s :: l => (s.steps + 1) + z1r l
def Abs.tm (a : Abs) (t : Int) : Abs := { a with time := t }
theorem zYy (a : Abs) (t what : Int) (h : ¬ what = 2) : z69 (a.tm t) what = ((z69 a what).1, (z69 a what).2.tm t) := by
 have e : (a.tm t).reg = a.reg := rfl
 unfold z69
 rw [e]
 split
 ·rfl
 ·split
  ·rfl
  ·rfl
theorem zYx (a : Abs) (t : Int) (d : Nat) (p : Val) (o : Int) : z45 (a.tm t) d p o = ((z45 a d p o).1, (z45 a d p o).2.tm t) := by
 have e : (a.tm t).at p (z14 p o).1.toNat = a.at p (z14 p o).1.toNat := rfl
 unfold z45
 rw [e]
 split
 ·rfl
 ·split <;> rfl
theorem zYq (a : Abs) (t : Int) (p v : Val) (o : Int) : z38 (a.tm t) p v o = ((z38 a p v o).1, (z38 a p v o).2.tm t) := by
 unfold z38
 repeat (split; rfl)
 rfl
theorem doF_tm (c d s : Int) (r : Bool) (o n : Int) (a : Abs) (t : Int) (h : ¬ (c = 27 /\ n = 2)) : doF c d s r o n (a.tm t) = ((doF c d s r o n a).1, (doF c d s r o n a).2.1, (doF c d s r o n a).2.2.tm t) := by
 have e1 : (a.tm t).reg = a.reg := rfl
 have e2 : (a.tm t).second s.toNat r n = a.second s.toNat r n := rfl
 unfold doF
 rw [e1, e2]
 by_cases h1 : 15 <= c /\ c <= 24
 ·rw [if_pos h1, if_pos h1]
 rw [if_neg h1, if_neg h1]
 by_cases h2 : c = 14
 ·rw [if_pos h2, if_pos h2]
 rw [if_neg h2, if_neg h2]
 by_cases h3 : c = 25
 ·rw [if_pos h3, if_pos h3, zYx]
 rw [if_neg h3, if_neg h3]
 by_cases h4 : c = 26
 ·rw [if_pos h4, if_pos h4, zYq]
 rw [if_neg h4, if_neg h4]
 by_cases h5 : c = 27
 ·rw [if_pos h5, if_pos h5, zYy _ _ _ (fun e => h ⟨h5, e⟩)]
 rw [if_neg h5, if_neg h5]
 rfl
def End.tm (x : End) (t : Int) : End := match x with
 | .inl y => .inl y
 | .inr (n, k, a) => .inr (n, k, a.tm t)
theorem zYr {C D S : Nat -> Int} {R : Nat -> Bool} {O N : Nat -> Int} {len : Nat} (h : ∀ j, j < len -> ¬ (C j = 27 /\ N j = 2)) (t : Int) : ∀ (f pc k : Nat) (a : Abs), runN C D S R O N len f pc k (a.tm t) = End.tm (runN C D S R O N len f pc k a) t
 | 0, pc, k, a => rfl
 | f + 1, pc, k, a => by
  rw [z5z, z5z]
  by_cases c1 : pc < len
  ·rw [if_pos c1, if_pos c1]
   by_cases c2 : C pc = 28
   ·rw [if_pos c2, if_pos c2]
    have e : (a.tm t).reg = a.reg := rfl
    rw [e]
    split <;> rfl
   ·rw [if_neg c2, if_neg c2, doF_tm _ _ _ _ _ _ _ _ (h pc c1)]
    dsimp only
    split
    ·rfl
    ·exact zYr h t f _ _ _
  ·rw [if_neg c1, if_neg c1]; rfl
def Deaf (xs : List St) : Prop := ∀ j, j < xs.length -> ¬ ((nth xs j).c = 27 /\ (nth xs j).n = 2)
theorem zZb (x : End) (t : Int) : rnOf (End.tm x t) = rnOf x := by
 rcases x with x | ⟨n, k, a⟩ <;> rfl
theorem zZ9 {xs : List St} (h : Deaf xs) (T K : Nat -> Int) (t1 t2 : Int) : rnOf (runL xs T K t1) = rnOf (runL xs T K t2) := by
 have e : (z4t T K t1).abs [] = ((z4t T K t2).abs []).tm t1 := rfl
 unfold runL runF
 rw [e, zYr h t1, zZb]
def Pg.bare (p : Pg) : Pg := { p with sl := .slice none 0 0 }
theorem zYz {p q : Pg} (e : p.bare = q.bare) (h : Deaf p.xs) (T : Nat -> Int) (t1 t2 : Int) : p.run T t1 = q.run T t2 := by
 have e1 : p.xs = q.xs := show p.bare.xs = q.bare.xs by rw [e]
 have e2 : p.tab = q.tab := show p.bare.tab = q.bare.tab by rw [e]
 unfold Pg.run
 rw [<- e1, <- e2]
 exact zZ9 h T p.tab t1 t2
theorem zZ0 {p q : Pg} (e : p.bare = q.bare) (r : Rn) : (p.ran r).bare = (q.ran r).bare := by
 have e1 : p.xs = q.xs := show p.bare.xs = q.bare.xs by rw [e]
 have e3 : p.id = q.id := show p.bare.id = q.bare.id by rw [e]
 have e4 : p.rank = q.rank := show p.bare.rank = q.bare.rank by rw [e]
 unfold Pg.ran Pg.bare
 rw [e1, e3, e4]
theorem zYu {p q : Pg} (e : p.bare = q.bare) (s : Sd) (r : Rn) : s.more p r = s.more q r := by
 have e3 : p.id = q.id := show p.bare.id = q.bare.id by rw [e]
 unfold Sd.more
 rw [e3]
theorem zY7 (T : Nat -> Int) (t1 t2 : Int) : ∀ (ps qs : List Pg) (s : Sd), ps.map Pg.bare = qs.map Pg.bare -> (∀ p, p ∈ ps -> Deaf p.xs) -> (z08 T t1 ps s).1 = (z08 T t2 qs s).1 /\ (z08 T t1 ps s).2.map Pg.bare = (z08 T t2 qs s).2.map Pg.bare
 | [], [], s, _, _ => ⟨rfl, rfl⟩
 | [], q :: qs, s, e, _ => by simp at e
 | p :: ps, [], s, e, _ => by simp at e
 | p :: ps, q :: qs, s, e, h => by
  rw [List.map_cons, List.map_cons] at e
  have e1 : p.bare = q.bare := (List.cons.inj e).1
  have e2 := (List.cons.inj e).2
  have er := zYz e1 (h p mcS) T t1 t2
  have em := zYu e1 s (q.run T t2)
  have en := zZ0 e1 (q.run T t2)
  rw [z08, z08, er, em]
  obtain ⟨i1, i2⟩ := zY7 T t1 t2 ps qs (s.more q (q.run T t2)) e2 fun p hp => h p (mcO _ hp)
  split
  ·refine ⟨i1, ?_⟩
   rw [List.map_cons, List.map_cons, en, i2]
  ·refine ⟨rfl, ?_⟩
   rw [List.map_cons, List.map_cons, en, e2]
theorem zYe (T : Nat -> Int) (t : Int) : ∀ (ps : List Pg) (s : Sd), ∀ p, p ∈ (z08 T t ps s).2 -> ∃ q, q ∈ ps /\ p.xs = q.xs
 | [], s, p, hp => by simp [z08] at hp
 | q :: ps, s, p, hp => by
  rw [z08] at hp
  split at hp
  ·rcases List.mem_cons.1 hp with rfl | hp
   ·exact ⟨q, mcS, rfl⟩
   ·obtain ⟨r, h1, h2⟩ := zYe T t ps _ p hp
    exact ⟨r, mcO _ h1, h2⟩
  ·rcases List.mem_cons.1 hp with rfl | hp
   ·exact ⟨q, mcS, rfl⟩
   ·exact ⟨p, mcO _ hp, rfl⟩
structure zY4 (a b : Gt) : Prop where
 ps : a.ps.map Pg.bare = b.ps.map Pg.bare
 last : a.last = b.last
 evs : a.evs = b.evs
 may : a.may = b.may
 left : a.left = b.left
 deaf : ∀ p, p ∈ a.ps -> Deaf p.xs
theorem zY4.ev {a b : Dsk} {k : Nat} (h : zY4 (a.g k) (b.g k)) (T : Nat -> Int) (rest : List (Nat -> Int)) : zY4 ((evGo a k T rest).1.g k) ((evGo b k T rest).1.g k) /\ (evGo a k T rest).2 = (evGo b k T rest).2 := by
 obtain ⟨c1, c2⟩ := zY7 T a.ran b.ran _ _ sd0 h.ps h.deaf
 refine ⟨?_, c1⟩
 have e : ∀ d : Dsk, (evGo d k T rest).1.g k = { d.g k with ps := (z08 T d.ran (d.g k).ps sd0).2, evs := rest, left := (d.g k).left - ((z08 T d.ran (d.g k).ps sd0).1.steps + 1) } := fun d => by
  show (d.put k _).g k = _
  rw [z3r, if_pos rfl]
 rw [e, e]
 refine ⟨c2, h.last, rfl, h.may, ?_, fun p hp => ?_⟩
 ·show (a.g k).left - _ = (b.g k).left - _
  rw [h.left, c1]
 ·obtain ⟨q, h1, h2⟩ := zYe T a.ran _ _ p hp
  rw [h2]; exact h.deaf q h1
theorem zY8 (k : Nat) : ∀ (f : Nat) (a b : Dsk) (l : List Sd), zY4 (a.g k) (b.g k) -> zY4 ((z1y k f a l).1.g k) ((z1y k f b l).1.g k) /\ (z1y k f a l).2 = (z1y k f b l).2
 | 0, a, b, l, h => ⟨h, rfl⟩
 | f + 1, a, b, l, h => by
  rw [z1y, z1y, <- h.evs, <- h.left]
  cases he : (a.g k).evs with
  | nil => exact ⟨h, rfl⟩
  | cons T rest =>
   dsimp only
   obtain ⟨h1, h2⟩ := h.ev T rest
   split
   ·rw [<- h2]
    exact zY8 k f _ _ _ h1
   ·exact ⟨h, rfl⟩
theorem zY9 {a b : Dsk} {k : Nat} (h : zY4 (a.g k) (b.g k)) : zY4 ((z13 a k).1.g k) ((z13 b k).1.g k) /\ (z13 a k).2 = (z13 b k).2 := by
 have h0 : zY4 ((z40 a k).g k) ((z40 b k).g k) := by
  unfold z40
  rw [z3r, z3r, if_pos rfl, if_pos rfl]
  exact ⟨h.ps, h.last, h.evs, h.may, by show _ + _ = _ + _; rw [h.left, h.may], h.deaf⟩
 obtain ⟨h1, h2⟩ := zY8 k 20 _ _ [] h0
 unfold z13
 refine ⟨?_, h2⟩
 dsimp only
 generalize (z1y k 20 (z40 a k) []).1 = x at h1 ⊢
 generalize (z1y k 20 (z40 b k) []).1 = y at h1 ⊢
 unfold z4m
 rw [<- h1.evs]
 split
 ·rw [z3r, z3r, if_pos rfl, if_pos rfl]
  exact ⟨h1.ps, h1.last, h1.evs, h1.may, by show min _ _ = min _ _; rw [h1.left], h1.deaf⟩
 ·exact h1
def ofH (k : Nat) : List (Nat × Sd) -> List Sd
 | [] => []
 | x :: l => if x.1 = k then x.2 :: ofH k l else ofH k l
theorem zAq (k : Nat) : ∀ (a b : List (Nat × Sd)), ofH k (a ++ b) = ofH k a ++ ofH k b
 | [], b => rfl
 | x :: a, b => by
  rw [List.cons_append, ofH, ofH, zAq k a b]
  split <;> rfl
theorem zPr (k : Nat) : ∀ l : List Sd, ofH k (l.map fun s => (k, s)) = l
 | [] => rfl
 | s :: l => by rw [List.map_cons, ofH, if_pos rfl, zPr k l]
theorem zAp {k j : Nat} (h : j ≠ k) : ∀ l : List Sd, ofH k (l.map fun s => (j, s)) = []
 | [] => rfl
 | s :: l => by rw [List.map_cons, ofH, if_neg h, zAp h l]
theorem zCj (d : Dsk) (k : Nat) : ∀ j, ofH k (z0g j d).2 = if k < j then (z13 (z0g k d).1 k).2 else []
 | 0 => rfl
 | j + 1 => by
  rw [z0g]
  dsimp only
  rw [zAq, zCj d k j]
  by_cases c : k < j
  ·rw [if_pos c, if_pos (by omega), zAp (by omega), List.append_nil]
  ·rw [if_neg c]
   by_cases e : j = k
   ·subst e
    rw [if_pos (by omega), zPr, List.nil_append]
   ·rw [if_neg (by omega), zAp e]; rfl
theorem zCl (d : Dsk) (k : Nat) : ∀ j, k < j -> (z0g j d).1.g k = (z13 (z0g k d).1 k).1.g k
 | 0, h => absurd h (Nat.not_lt_zero _)
 | j + 1, h => by
  rw [z0g]
  dsimp only
  by_cases e : j = k
  ·subst e; rfl
  ·rw [z4h _ j k (fun z => e z.symm)]
   exact zCl d k j (by omega)
theorem zYn {a b : Dsk} {k : Nat} (hk : k < 3) (h : zY4 (a.g k) (b.g k)) : zY4 ((z0g 3 a).1.g k) ((z0g 3 b).1.g k) /\ ofH k (z0g 3 a).2 = ofH k (z0g 3 b).2 := by
 rw [zCl a k 3 hk, zCl b k 3 hk, zCj, zCj, if_pos hk, if_pos hk]
 refine zY9 ?_
 rw [z5d a k k (Nat.le_refl _), z5d b k k (Nat.le_refl _)]
 exact h
theorem zYj {k : Nat} : ∀ {l : List (Nat × Sd)} {x : Nat × Sd}, x ∈ l -> x.1 = k -> x.2 ∈ ofH k l
 | y :: l, x, h, e => by
  rw [ofH]
  rcases List.mem_cons.1 h with rfl | h
  ·rw [if_pos e]; exact mcS
  ·split
   ·exact mcO _ (zYj h e)
   ·exact zYj h e
theorem zYc {d : Dsk} {k : Nat} (hk : k < 3) (h : (d.g k).evs = []) : ofH k (z0g 3 d).2 = [] /\ ((z0g 3 d).1.g k).evs = [] := by
 rw [zCl d k 3 hk, zCj, if_pos hk]
 have h' : ((z0g k d).1.g k).evs = [] := by rw [z5d d k k (Nat.le_refl _)]; exact h
 generalize (z0g k d).1 = D at h' ⊢
 have hp : ((z40 D k).g k).evs = [] := by unfold z40; rw [z3r, if_pos rfl]; exact h'
 have hg : z1y k 20 (z40 D k) [] = (z40 D k, []) := by
  rw [z1y]
  split
  ·rfl
  ·rename_i e; rw [hp] at e; exact absurd e (by simp)
 unfold z13
 dsimp only
 rw [hg]
 refine ⟨rfl, ?_⟩
 unfold z4m
 dsimp only
 split
 ·rw [z3r, if_pos rfl]; exact hp
 ·exact hp
theorem zCk (d : Dsk) : ∀ (j : Nat) (x : Nat × Sd), x ∈ (z0g j d).2 -> x.1 < j
 | 0, x, h => absurd h List.not_mem_nil
 | j + 1, x, h => by
  rw [z0g] at h
  dsimp only at h
  rcases List.mem_append.1 h with h | h
  ·have := zCk d j x h; omega
  ·obtain ⟨s, -, rfl⟩ := List.mem_map.1 h
   exact Nat.lt_succ_self j
section
section
variable {w : World} {B : Nat}
end
end
theorem DOk.event {w w' : World} {B k : Nat} {d : Dsk} {M : Int} {T : Nat -> Int} (h : DOk w B d M) (hk : k < 3) (h20 : (d.g k).evs.length < 20) (hT : ∀ i, i < 8 -> In64 (T i)) (hkp : Kept B w w') (hD : z0k w' B (d.put k { d.g k with evs := (d.g k).evs ++ [T] })) : DOk w' B (d.put k { d.g k with evs := (d.g k).evs ++ [T] }) M := by
 refine ⟨hD, ?_, ?_, ?_, ?_, ?_, ?_, ?_, ?_, ?_, ?_, h.ran0, h.ran1⟩ <;> intro j hj <;> rw [z3r] <;> split
 ·exact fun p hp => (h.ps k hk p hp).kept hkp
 ·exact fun p hp => (h.ps j hj p hp).kept hkp
 ·exact h.few k hk
 ·exact h.few j hj
 ·show ((d.g k).evs ++ [T]).length <= 20; rw [List.length_append, List.length_singleton]; omega
 ·exact h.evs j hj
 ·intro T' hT'
  rcases List.mem_append.1 hT' with hT' | hT'
  ·exact h.told k hk T' hT'
  ·rw [List.mem_singleton.1 hT']; exact hT
 ·exact h.told j hj
 ·exact h.may0 k hk
 ·exact h.may0 j hj
 ·exact h.may1 k hk
 ·exact h.may1 j hj
 ·exact h.left0 k hk
 ·exact h.left0 j hj
 ·exact h.left1 k hk
 ·exact h.left1 j hj
 ·exact h.last0 k hk
 ·exact h.last0 j hj
 ·exact h.last1 k hk
 ·exact h.last1 j hj
theorem ins_mem {ps : List Pg} {i : Nat} {q p : Pg} (h : p ∈ Pg.ins ps i q) : p = q \/ p ∈ ps := by
 unfold Pg.ins at h
 rcases List.mem_append.1 h with h | h
 ·exact Or.inr (List.mem_of_mem_take h)
 ·rcases List.mem_cons.1 h with h | h
  ·exact Or.inl h
  ·exact Or.inr (List.mem_of_mem_drop h)
theorem DOk.attach {w w' : World} {B k i : Nat} {d : Dsk} {M : Int} {q : Pg} (h : DOk w B d M) (hk : k < 3) (h7 : (d.g k).ps.length <= 7) (hi : i <= (d.g k).ps.length) (hq : PgOk w' B q) (hkp : Kept B w w') (hD : z0k w' B (d.put k { d.g k with ps := Pg.ins (d.g k).ps i q, last := (d.g k).last + 1 })) : DOk w' B (d.put k { d.g k with ps := Pg.ins (d.g k).ps i q, last := (d.g k).last + 1 }) (M + 1) := by
 have hr : (d.put k { d.g k with ps := Pg.ins (d.g k).ps i q, last := (d.g k).last + 1 }).ran = d.ran := rfl
 refine ⟨hD, ?_, ?_, ?_, ?_, ?_, ?_, ?_, ?_, ?_, ?_, h.ran0, by rw [hr]; have := h.ran1; omega⟩ <;> intro j hj <;> rw [z3r] <;> split
 ·intro p hp
  rcases ins_mem hp with rfl | hp
  ·exact hq
  ·exact (h.ps k hk p hp).kept hkp
 ·exact fun p hp => (h.ps j hj p hp).kept hkp
 ·show (Pg.ins (d.g k).ps i q).length <= 8; rw [zD0 _ _ hi]; omega
 ·exact h.few j hj
 ·exact h.evs k hk
 ·exact h.evs j hj
 ·exact h.told k hk
 ·exact h.told j hj
 ·exact h.may0 k hk
 ·exact h.may0 j hj
 ·exact h.may1 k hk
 ·exact h.may1 j hj
 ·exact h.left0 k hk
 ·exact h.left0 j hj
 ·exact h.left1 k hk
 ·exact h.left1 j hj
 ·show 0 <= (d.g k).last + 1; have := h.last0 k hk; omega
 ·exact h.last0 j hj
 ·show (d.g k).last + 1 <= M + 1; have := h.last1 k hk; omega
 ·have := h.last1 j hj; omega
def zVa (d : Dsk) (k : Nat) (xs : List St) (rank : Int) (d' : Dsk) : Prop :=
 (¬ (Lets xs /\ (d.g k).ps.length <= 7) /\ d' = d) \/ (Lets xs /\ (d.g k).ps.length <= 7 /\ ∃ q : Pg, q.id = (d.g k).last + 1 /\ q.rank = rank /\ q.xs = xs /\ q.tab = (fun _ => 0) /\ d' = d.put k { d.g k with ps := Pg.ins (d.g k).ps ((d.g k).ps.findIdx fun p => decide (rank < p.rank)) q, last := (d.g k).last + 1 })
theorem zJa (B k : Nat) (hk : k < 3) (d : Dsk) (M : Int) (l : Value) (xs : List St) (rank : Int) (w : World) (HD : Hid (DOk w B d M)) (hM0 : 0 <= M) (hM : M <= 900000) (HL : Hid (LsAt w l xs)) (HB : Hid (1 <= xs.length -> ∀ a n c, l = .slice (some a) n c -> a.block ≠ B)) :
  Calls tP 18 #[pT (some ⟨B, k * 317, none⟩), l, A E rank] w fun e w' => ∃ v, e = rT v /\ (∃ x y, v = .tuple #[x, y]) /\ Kept B w w' /\ ∃ d', DOk w' B d' (M + 1) /\ zVa d k xs rank d' := by
 have hD := HD.out.at_
 by_cases hL : Lets xs
 ·by_cases h7 : (d.g k).ps.length <= 7
  ·refine (zD1 B k (d.g k).ps.length hk d l xs rank w hD rfl h7 HL hL HD.out.one (HB.out hL.1) (by have := HD.out.last0 k hk; omega) (by have := HD.out.last1 k hk; omega)).mono fun e w' h => ?_
   obtain ⟨rfl, h1, q, q1, q2, q3, q4, q5, q6⟩ := h
   exact ⟨_, rfl, ⟨_, _, rfl⟩, h1, _, HD.out.attach hk h7 List.findIdx_le_length q5 h1 q6, Or.inr ⟨hL, h7, q, q1, q2, q3, q4, rfl⟩⟩
  ·have h8 : (d.g k).ps.length = 8 := by have := HD.out.few k hk; omega
   refine (zGp B k 8 hk d l xs rank w hD HL hL h8).mono fun e w' h => ?_
   obtain ⟨rfl, h1⟩ := h
   exact ⟨_, rfl, ⟨_, _, rfl⟩, z0e h1 B, d, (HD.out.later h1).mono (by omega), Or.inl ⟨fun z => h7 z.2, rfl⟩⟩
 ·refine (zJ9 B k 0 hk d l xs rank w hD HL hL).mono fun e w' h => ?_
  obtain ⟨⟨t, x, rfl⟩, h1⟩ := h
  exact ⟨_, rfl, ⟨_, _, rfl⟩, z0e h1 B, d, (HD.out.later h1).mono (by omega), Or.inl ⟨fun z => hL z.1, rfl⟩⟩
theorem Kept.below {B : Nat} {w0 w w' : World} (h : Below w0.heap.size w0 w) (hk : Kept B w w') (hB : w0.heap.size <= B) : Below w0.heap.size w0 w' :=
 ⟨hk.os.trans h.os, hk.tape.trans h.tape, hk.output.trans h.output, Nat.le_trans h.size hk.size, fun k hk' => (hk.block k (Nat.lt_of_lt_of_le hk' h.size) fun e => by have := Option.some.inj e; omega).trans (h.block k hk')⟩
theorem zVa.same {d d' : Dsk} {k : Nat} {xs : List St} {rank : Int} (h : zVa d k xs rank d') : ∀ j, (d'.g j).evs = (d.g j).evs /\ (d'.g j).may = (d.g j).may /\ (d'.g j).left = (d.g j).left := by
 intro j
 rcases h with ⟨-, rfl⟩ | ⟨-, -, q, -, -, -, -, rfl⟩
 ·exact ⟨rfl, rfl, rfl⟩
 ·rw [z3r]
  split
  ·rename_i e; rw [e]; exact ⟨rfl, rfl, rfl⟩
  ·exact ⟨rfl, rfl, rfl⟩
section
attribute [local simp] z00 z0d z07
section
variable {w : World} {n bm B : Nat} {mv sp mo ca we : Nat -> Int} {al : Nat -> Bool} {d : Dsk} {M : Int} {wr : World}
end
end
section
attribute [local simp] z00 z0d z07
theorem zDd : ∀ (ds : List Dn) (q j : Nat) (x : Dn), ds[q]? = some x -> j < 5 -> (z2k ds)[q * 5 + j]? = x.cells[j]?
 | [], q, j, x, h, _ => by simp at h
 | y :: ds, 0, j, x, h, hj => by
  have e : y = x := by simpa using h
  subst e
  have e1 : z2k (y :: ds) = y.cells ++ z2k ds := rfl
  rw [e1, Nat.zero_mul, Nat.zero_add, List.getElem?_append_left (by show j < 5; exact hj)]
 | y :: ds, q + 1, j, x, h, hj => by
  have e1 : z2k (y :: ds) = y.cells ++ z2k ds := rfl
  have hl : y.cells.length = 5 := rfl
  rw [e1, List.getElem?_append_right (by omega), hl, show (q + 1) * 5 + j - 5 = q * 5 + j by omega]
  exact zDd ds q j x (by simpa using h) hj
theorem zUk {w : World} {base gd cap q : Nat} {ds : List Dn} {x : Dn} (h : w.ownsRow base 77 5 (.slice (some ⟨gd, 0, none⟩) ds.length cap) ds.length (z2k ds)) (hq : ds[q]? = some x) : w.rangeAt gd (q * 5) x.cells := fun j v hv => by
 have hj : j < 5 := by have := (List.getElem?_eq_some_iff.1 hv).1; simpa [Dn.cells] using this
 have hl := (List.getElem?_eq_some_iff.1 hq).1
 rw [World.ownsRow.cellAt h (q * 5 + j) (by omega), zDd ds q j x hq hj]
 exact hv
def dnL (ds : List Dn) : List (Nat × Sd) := ds.map fun x => (x.k, x.s)
section
variable {w : World} {n bm B : Nat} {mv sp mo ca we : Nat -> Int} {al : Nat -> Bool} {d : Dsk} {M : Int} {base : Nat} {vd : Value} {ds : List Dn} {q : Nat} {wr : World}
end
end
end Go.Proofs.YtbimlalhodibjaaGreatDoor
