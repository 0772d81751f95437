/-
 gatehousekeep.HookFair is true. Conditions: the fact hooked holds; the acts lie in memory. From the reading of a list of steps to its cells: each step's six fields lie one behind the other, and its numbers are of 64 bits. Conditions: none. From the reading of a list of acts, and of three numbers, to their cells. Conditions: none. From the listed package variables to the tables that the walks read: the codes' names and what is called, of the project and of the document, and the library's powers of ten. Conditions: the listed variables read as the program's text lays them.
-/
import Derived.Test.YtbimlalhodibjaaGreatDoorJf25
import Derived.Deep.DeepCutAuto
import Derived.Deep.CutBlock
import Derived.Deep.QuietTactic
import Derived.BigQuiet
import Derived.Test.YtbimlalhodibjaaGreatDoorJf1
import Derived.Test.YtbimlalhodibjaaGreatDoorJf3
import Derived.Deep.Slices
import Derived.ChangeSame
import Derived.ChangeVars
import Derived.ChangeOld
import Derived.Test.YtbimlalhodibjaaGreatDoorJf23
import Derived.Test.YtbimlalhodibjaaGreatDoorJf21
import Derived.Lib.LaidTab
import Derived.LaidHandle
import Derived.LaidLaws
set_option maxHeartbeats 40000000
open Go.Value renaming int → E
open Go.IntKind renaming i64 → F
open Go.RowKit.Below renaming alloc → bA, setCell → bS, drew → bD, refl → bF
set_option maxRecDepth 1000000
set_option linter.defProp false
set_option linter.unusedVariables false
set_option linter.unusedSimpArgs false
open Go.Ending renaming returned → rT
open Go.Value renaming pointer → pT
open Go.Obj renaming cells → cT
open Go.Proofs.Tryz renaming prog → tP
namespace Go.Proofs.YtbimlalhodibjaaGreatDoor
open Go.ChangeShapes Go.WideShapes Go.ChangeAt Go.RowKit
section
attribute [local simp] z00 z0d z07
def mayF (m : Nat -> Int) (j : Nat) : Nat -> Int := fun i => if i < j then 1 + (pickF (m i) 60 : Int) else m i
theorem zWl (m : Nat -> Int) (j : Nat) : up3 (mayF m j) j (1 + (pickF (m j) 60 : Int)) = mayF m (j + 1) := by
 funext i
 unfold up3 mayF
 by_cases h : i = j
 ·rw [if_pos h, if_pos (by omega), h]
 ·rw [if_neg h]
  by_cases h2 : i < j
  ·rw [if_pos h2, if_pos (by omega)]
  ·rw [if_neg h2, if_neg (by omega)]
theorem z5i (j : Nat) : Value.int .i64 ((j : Int) + 1) = E F ((j + 1 : Nat) : Int) := rfl
theorem zWm (m : Nat -> Int) : ∀ k, k < 3 -> 1 <= mayF m 3 k /\ mayF m 3 k <= 60 := fun k hk => by
 have := zE9 (m k) (n := 60) (by decide)
 unfold mayF
 rw [if_pos hk]
 omega
theorem new_ok {w : World} {B : Nat} {mv : Nat -> Int} (hD : z0k w B (z44 mv 3)) (hm : ∀ k, k < 3 -> 1 <= mv k /\ mv k <= 60) : DOk w B (z44 mv 3) 0 := by
 have e : ∀ k, k < 3 -> (z44 mv 3).g k = ⟨[], 0, [], mv k, 0⟩ := fun k hk => by unfold z44; dsimp only; rw [if_pos hk]
 refine ⟨hD, ?_, ?_, ?_, ?_, ?_, ?_, ?_, ?_, ?_, ?_, Int.le_refl _, Int.le_refl _⟩ <;> intro k hk <;> rw [e k hk]
 ·exact fun p hp => absurd hp List.not_mem_nil
 ·exact Nat.zero_le _
 ·exact Nat.zero_le _
 ·exact fun T hp => absurd hp List.not_mem_nil
 ·exact (hm k hk).1
 ·have := (hm k hk).2; show mv k <= 1000; omega
 ·show (-1601 : Int) <= 0; decide
 ·show (0 : Int) <= 2000; decide
 ·exact Int.le_refl _
 ·exact Int.le_refl _
theorem new_fr {mv : Nat -> Int} : ∀ k, k < 3 -> ((z44 mv 3).g k).evs = [] /\ ((z44 mv 3).g k).may = mv k /\ ((z44 mv 3).g k).left = 0 := fun k hk => ⟨rfl, if_pos hk, rfl⟩
theorem ac_one {w : World} {x : Ac} (h : LsAt w x.code x.xs) : x.cs.all (·.oneCell') = true := by
 obtain ⟨a, cap, e, -⟩ := h.lies
 unfold Ac.cs
 rw [e]
 kernel_rfl
theorem zPv (w : World) (old cs : Array Value) (t : TypeId) : Below w.heap.size w ((w.alloc (cT old t)).setRow w.heap.size cs) /\ ((w.alloc (cT old t)).setRow w.heap.size cs).heap[w.heap.size]? = some (cT cs t (0, 0)) :=
 ⟨z06 ((bF _ _).alloc (Nat.le_refl _) _) (Nat.le_refl _) _, setRow_heap _ _ old cs t (0, 0) (heap_alloc_new _ _)⟩
structure z4q (w : World) (n bm B : Nat) (mv : Nat -> Int) (i r : Nat) (wr : World) : Prop where
 ex : ∃ d sp mo ca we al, FSt w n bm B mv sp mo ca we al d (60 * (i : Int)) wr /\ Fr d mv sp mo ca we al (r : Int) /\ ∀ k, k < 3 -> ca k <= (i : Int)
def dnZ : Array Value := #[E F 0, E F 0, E F 0, .slice none 0 0, E F 0]
theorem dn_one {y : Dn} (h : y.v.oneCell' = true) : y.cells.toArray.all (·.oneCell') = true := by
 unfold Dn.cells
 simpa [Value.oneCell'] using h
theorem z4q.drewN {w : World} {n bm B : Nat} {mv : Nat -> Int} {i r : Nat} {wr : World} (h : z4q w n bm B mv i r wr) (k : Nat) : z4q w n bm B mv i r (wr.drewN k) := by
 obtain ⟨d, sp, mo, ca, we, al, hF, hFr, hca⟩ := h.ex
 exact ⟨d, sp, mo, ca, we, al, ⟨below_drewN hF.bel k, hF.may, hF.sp, hF.mo, hF.ca, hF.we, hF.al, hF.dsk.later (below_drewN (bF _ _) k), hF.o1, hF.o2, hF.o3⟩, hFr, hca⟩
theorem zY0 {w : World} {g : Nat} {x : Ac} {t : TypeId} (h : w.heap[g]? = some (cT x.cs t (0, 0))) : w.rangeAt g 4 (z0o x.T).toList := fun j v hv => by
 have hj : j < 8 := by have := (List.getElem?_eq_some_iff.1 hv).1; simpa [z0o] using this
 rw [cell_of_row w g (4 + j) _ _ _ h, <- hv]
 rcases (show j = 0 \/ j = 1 \/ j = 2 \/ j = 3 \/ j = 4 \/ j = 5 \/ j = 6 \/ j = 7 by omega) with rfl | rfl | rfl | rfl | rfl | rfl | rfl | rfl <;> rfl
theorem zN8 {w : World} {n bm B k : Nat} {mv sp mo ca we : Nat -> Int} {al : Nat -> Bool} {d : Dsk} {i r : Nat} {wr : World} {T : Nat -> Int} (h : FSt w n bm B mv sp mo ca we al (d.put k { d.g k with evs := (d.g k).evs ++ [T] }) (60 * (i : Int)) wr) (hr : Fr d mv sp mo ca we al (r : Int)) (hc : ∀ k, k < 3 -> ca k <= (i : Int)) (hk : k < 3) : z4q w n bm B mv (i + 1) r (wr.setCell ⟨n + 1 + 1, k, none⟩ (E F (ca k + 1))) := by
 refine ⟨_, _, _, _, _, _, (h.setCa hk (ca k + 1)).mono (by omega), hr.of (ca' := up3 ca k (ca k + 1)) fun j hj => ?_, fun j hj => ?_⟩
 ·rw [z3r]
  unfold up3
  by_cases e : j = k
  ·subst e
   rw [if_pos rfl, if_pos rfl]
   refine ⟨rfl, rfl, ?_⟩
   show ((((d.g j).evs ++ [T]).length : Nat) : Int) - _ = _
   rw [List.length_append, List.length_singleton]
   omega
  ·rw [if_neg e, if_neg e]
   exact ⟨rfl, rfl, by omega⟩
 ·unfold up3
  by_cases e : j = k
  ·rw [if_pos e]; have := hc k hk; omega
  ·rw [if_neg e]; have := hc j hj; omega
theorem z7o {w : World} {n bm B : Nat} {mv sp mo ca we : Nat -> Int} {al : Nat -> Bool} {d d' : Dsk} {M : Int} {i r : Nat} {wr : World} (h : FSt w n bm B mv sp mo ca we al d' M wr) (hM : M <= 60 * (i : Int) + 60) (hr : Fr d mv sp mo ca we al (r : Int)) (hc : ∀ k, k < 3 -> ca k <= (i : Int)) (hs : ∀ j, (d'.g j).evs = (d.g j).evs /\ (d'.g j).may = (d.g j).may /\ (d'.g j).left = (d.g j).left) : z4q w n bm B mv (i + 1) r wr :=
 ⟨_, _, _, _, _, _, h.mono (by omega), hr.of (ca' := ca) (fun j hj => ⟨(hs j).2.1, (hs j).2.2, by rw [(hs j).1]; omega⟩), fun j hj => by have := hc j hj; omega⟩
theorem zR6 (m : Nat -> Int) (a : Option Addr) (cap : Nat) (xs : List Ac) (w : World) (h60 : xs.length <= 60) (HA : Hid (zDl w a xs)) (HHK : Hid (∀ W : World, Below w.heap.size w W -> Calls tP 15 #[] W fun e w' => e = rT (.bool true) /\ Below W.heap.size W w')) :
    Calls tP 4 #[.agg (arr3 m), .slice a xs.length cap] w fun e w' => e = rT (.bool true) /\ Below w.heap.size w w' := by
  have z60 : decide (60 < (xs.length : Int)) = false := decide_eq_false (by omega)
  have hK0 : Blk w [(w.heap.size, cT (arr3 m) 22 (0, 0))] (w.alloc (cT (arr3 m) 22)) := (Blk.nil ((bF _ _).alloc (Nat.le_refl _) _)).cons (heap_alloc_new w _)
  go_enter Tryz.func4, Tryz.ntmps4
  go_upto_region 1 with fail
  change Code.wp _ _ _ _ (w.alloc (cT (arr3 m) 22))
  generalize w.alloc (cT (arr3 m) 22) = w0 at hK0 ⊢
  go_upto_region 6 with (first | (go_at_call 15; go_must (refine (HHK.out _ hK0.1).mono ?_; rintro e w1 ⟨rfl, hb1⟩)) | fail)
  have hK1 := hK0.later hb1
  clear hK0 hb1 HHK
  have H1 : Hid (Below w.heap.size w w1 /\ w1.heap[w.heap.size]? = some (cT (arr3 (mayF m 0)) 22 (0, 0))) := ⟨hK1.1, hK1.2 _ mcS⟩
  clear hK1
  go_loopw [5] (fun jv wr => ∃ j : Nat, jv = E F j /\ j <= 3 /\ Hid (Below w.heap.size w wr /\ wr.heap[w.heap.size]? = some (cT (arr3 (mayF m j)) 22 (0, 0)))) (fun jv _ => 3 - (intOf jv).toNat)
  case atStart => exact ⟨0, rfl, by decide, H1.out⟩
  case round => as_aux_lemma =>
    clear H1
    obtain ⟨j, rfl, hj3, H⟩ := hrel
    have hj0 : (0 : Int) <= (j : Int) := by omega
    by_cases hj : j < 3
    · have hj' : (j : Int) < 3 := by omega
      obtain ⟨c0, f0⟩ := z3u hj H.out.2
      have hp := zPj (mayF m j j) 60 (by decide) (by decide)
      have hpl := zE9 (mayF m j j) (n := 60) (by decide)
      have ep : pickF (mayF m j j) 60 = pickF (m j) 60 := by unfold mayF; rw [if_neg (Nat.lt_irrefl j)]
      rw [ep] at hp hpl
      have hp' : Hid (∀ W : World, Calls tP 16 #[E F (mayF m j j), E F 60] W fun e w' => e = rT (E F (pickF (m j) 60 : Int)) /\ w' = W) := hp
      have e1 : IntKind.i64.wrap (1 + (pickF (m j) 60 : Int)) = 1 + (pickF (m j) 60 : Int) := by rw [IntWalk.i64_left, z0f (by omega) (by omega)]
      have hH : Hid (Below w.heap.size w (wr.setCell ⟨w.heap.size, j, none⟩ (E F (1 + (pickF (m j) 60 : Int)))) /\ (wr.setCell ⟨w.heap.size, j, none⟩ (E F (1 + (pickF (m j) 60 : Int)))).heap[w.heap.size]? = some (cT (arr3 (mayF m (j + 1))) 22 (0, 0))) := ⟨H.out.1.setCell (Nat.le_refl _) _, by rw [<- zWl, <- z84 _ hj]; exact heap_setCell_same wr _ j _ _ _ H.out.2⟩
      clear hp ep
      go_wp2_with (first | (go_at_call 16; go_must (refine (hp'.out _).mono ?_; rintro e w3 ⟨rfl, rfl⟩)) | fail)
      exact ⟨⟨j + 1, z5i j, by omega, hH.out⟩, by show 3 - ((j : Int) + 1).toNat < 3 - (j : Int).toNat; omega⟩
    · have hj' : j = 3 := by omega
      subst hj'
      have hmv := zWm m
      obtain ⟨mv, HMV⟩ : ∃ mv, Hid (mayF m 3 = mv) := ⟨_, rfl⟩
      rw [HMV.out] at H hmv
      have hN := zQm mv (fun k hk => (hmv k hk).1) (fun k hk => by have := (hmv k hk).2; omega) wr
      go_upto_region 9 with fail
      go_step
      refine wpList_load_row rfl 22 (.tmp 2) rfl w.heap.size rfl 22 (arr3 mv) (0, 0) _ H.out.2 Tryz.underlying22 rfl (zVf _ _ _) ?_
      simp only [Act.put, siA, scZ, scS]
      refine z0p rfl 6 #[.agg (arr3 mv)] (by go_simp; try rfl) (R := fun v w' => v = .tuple #[pT (some ⟨wr.heap.size + 1, 0, none⟩), .nilIface] /\ Below wr.heap.size wr w' /\ z0k w' (wr.heap.size + 1) (z44 mv 3)) (hN.mono fun e w' ⟨h1, h2⟩ => ⟨_, h1, rfl, h2⟩) ?_
      rintro v w2 ⟨rfl, hb2, hD2⟩
      simp only [Act.put, siA, scZ, scS]
      have hBm : w.heap.size < wr.heap.size := (Array.getElem?_eq_some_iff.1 H.out.2).1
      have hm2 := (hb2.block _ hBm).trans H.out.2
      have hbw2 := H.out.1.trans (hb2.mono H.out.1.size)
      have hO2 := new_ok hD2 hmv
      have hs2 := hD2.lt
      generalize hB : wr.heap.size + 1 = B at hD2 hO2 hs2 ⊢
      have hBm' : w.heap.size < B := by omega
      clear hN hb2 H hD2 hBm
      have hF := FSt.start hbw2 hm2 hO2 hBm'
      have hFr := Fr.new mv (z44 mv 3) new_fr
      go_upto_region 16 with fail
      generalize w2.heap.size = n at hF ⊢
      generalize (((((w2.alloc (cT #[E F 0, E F 0, E F 0] 22)).alloc (cT #[E F 0, E F 0, E F 0] 22)).alloc (cT #[E F 0, E F 0, E F 0] 22)).alloc (cT #[E F 0, E F 0, E F 0] 22)).alloc (cT #[.bool true, .bool true, .bool true] 65)) = w3 at hF ⊢
      have HM : Hid (z4q w n w.heap.size B mv 0 0 w3) := ⟨_, _, _, _, _, _, hF, hFr, fun k _ => Int.le_refl _⟩
      clear hF hFr hbw2 hm2 hO2 hs2 hB
      go_loopw [13, 14] (fun rv iv wr => ∃ r i : Nat, rv = E F r /\ iv = E F i /\ i <= xs.length /\ r <= i /\ Hid (z4q w n w.heap.size B mv i r wr)) (fun _ iv _ => xs.length - (intOf iv).toNat)
      case atStart => exact ⟨0, 0, rfl, rfl, Nat.zero_le _, Nat.le_refl _, HM.out⟩
      case round => as_aux_lemma =>
        clear HM
        obtain ⟨r, i, rfl, rfl, hil, hri, H⟩ := hrel
        have hi0 : (0 : Int) <= (i : Int) := by omega
        by_cases hi : i < xs.length
        · have hi' : (i : Int) < (xs.length : Int) := by omega
          obtain ⟨x, HX⟩ : ∃ x, Hid (xs.getD i ac0 = x) := ⟨_, rfl⟩
          have hxm : x ∈ xs := by rw [<- HX.out]; exact zUd ac0 hi
          obtain ⟨d, sp, mo, ca, we, al, hF, hFr, hca⟩ := H.out.ex
          have hAr := HA.out.later hF.bel
          obtain ⟨bk, off, rfl, hbk, hrow⟩ : ∃ bk off, a = some ⟨bk, off, none⟩ /\ bk < w.heap.size /\ ∀ i, i < xs.length -> wr.rangeAt bk (off + i * 12) (xs.getD i ac0).cs.toList := by
            rcases HA.out.lies with h | ⟨bk, off, e, h1, h2⟩
            · omega
            · exact ⟨bk, off, e, h1, fun i hi => zAg (h2 i hi) (hF.bel.block bk h1)⟩
          have hrow := hrow i hi
          rw [HX.out] at hrow
          go_upto_region 18 with fail
          go_step
          (refine z03 rfl (.slice (some ⟨bk, off, none⟩) xs.length cap) wr (by go_simp; try rfl) ?_); simp only [Act.put, siA, scZ, scS]
          (refine z03 rfl (E F (i : Int)) wr (by go_simp; try rfl) ?_); simp only [Act.put, siA, scZ, scS]
          (refine z03 rfl (pT (some ⟨bk, off + i * 12, none⟩)) wr (by go_simp; try rfl) ?_); simp only [Act.put, siA, scZ, scS]
          refine wpList_load_mid rfl 67 (.tmp 60) rfl bk (off + i * 12) rfl x.cs.toList _ hrow Tryz.underlying67 rfl (by kernel_rfl) ?_
          rw [Array.toArray_toList]
          simp only [Act.put, siA, scZ, scS]
          (refine z03 rfl (pT (some ⟨wr.heap.size, 0, none⟩)) (wr.alloc (cT ac0.cs 67)) (by go_simp; try rfl) ?_); simp only [Act.put, siA, scZ, scS]
          refine wpList_store_row rfl 67 (.tmp 15) (.tmp 61) rfl wr.heap.size x.cs rfl rfl 67 ac0.cs (heap_alloc_new wr _) (by kernel_rfl) rfl (ac_one (HA.out.code x hxm)) ?_
          simp only [Act.put, siA, scZ, scS]
          obtain ⟨hb4, hx4⟩ := zPv wr ac0.cs x.cs 67
          have HF4 : Hid (FSt w n w.heap.size B mv sp mo ca we al d (60 * (i : Int)) _) := hF.later hb4
          have HFr : Hid (Fr d mv sp mo ca we al (r : Int)) := hFr
          have HCA : Hid (∀ k, k < 3 -> ca k <= (i : Int)) := hca
          clear hF hFr hca H hAr hrow
          clear hb4
          generalize (wr.alloc (cT ac0.cs 67)).setRow wr.heap.size x.cs = w4 at hx4 HF4 ⊢
          generalize wr.heap.size = g at hx4 ⊢
          have hp : Hid (∀ W : World, Calls tP 16 #[E F x.hook, E F 3] W fun e w' => e = rT (E F (pickF x.hook 3 : Int)) /\ w' = W) := zPj x.hook 3 (by decide) (by decide)
          have hk := zE9 x.hook (n := 3) (by decide)
          generalize pickF x.hook 3 = k at hp hk
          have q0 : w4.cell? ⟨g, 0, none⟩ = some (E F x.what) := (cell_of_row w4 g 0 _ _ _ hx4).trans rfl
          have q1 : w4.cell? ⟨g, 1, none⟩ = some (E F x.hook) := (cell_of_row w4 g 1 _ _ _ hx4).trans rfl
          go_upto_region 20 with (first | (go_at_call 16; go_must (refine (hp.out _).mono ?_; rintro e w4 ⟨rfl, rfl⟩)) | fail)
          go_upto_block 4 with fail
          have hkc0 : (0 : Int) <= (k : Int) := by omega
          have hkc1 : (k : Int) < 3 := by omega
          go_cut [13] (fun rv wx => ∃ r' : Nat, rv = E F r' /\ r' <= i + 1 /\ Hid (z4q w n w.heap.size B mv (i + 1) r' wx))
          case first => as_aux_lemma =>
            by_cases c0 : x.what = 0
            · have b0 : (x.what == 0) = true := by rw [c0]; rfl
              clear c0
              have hT := HA.out.told x hxm
              have ht : w4.rangeAt g 4 (z0o x.T).toList := zY0 hx4
              by_cases h20 : (d.g k).evs.length < 20
              · have hE := zB3 B k _ hk d x.T w4 HF4.out.dsk.at_ rfl h20
                have HE : Hid (Calls tP 17 #[pT (some ⟨B, 0, none⟩), E F (k : Int), .agg (z0o x.T)] w4 fun e w' => e = rT .nilIface /\ Kept B w4 w' /\ z0k w' B (d.put k { d.g k with evs := (d.g k).evs ++ [x.T] })) := hE
                clear hE
                go_upto_region 22 with fail
                go_step
                (refine z03 rfl (pT (some ⟨B, 0, none⟩)) w4 (by go_simp; try rfl) ?_); simp only [Act.put, siA, scZ, scS]
                (refine z03 rfl (E F (k : Int)) w4 (by go_simp; try rfl) ?_); simp only [Act.put, siA, scZ, scS]
                (refine z03 rfl (pT (some ⟨g, 4, none⟩)) w4 (by go_simp; try rfl) ?_); simp only [Act.put, siA, scZ, scS]
                refine wpList_load_mid rfl 34 (.tmp 71) rfl g 4 rfl (z0o x.T).toList _ ht Tryz.underlying34 rfl (by kernel_rfl) ?_
                rw [Array.toArray_toList]
                simp only [Act.put, siA, scZ, scS]
                refine z0p rfl 17 #[pT (some ⟨B, 0, none⟩), E F (k : Int), .agg (z0o x.T)] (by go_simp; try rfl) (R := fun v w' => v = .nilIface /\ Kept B w4 w' /\ z0k w' B (d.put k { d.g k with evs := (d.g k).evs ++ [x.T] })) (HE.out.mono fun e w' ⟨h1, h2⟩ => ⟨_, h1, rfl, h2⟩) ?_
                rintro v w5 ⟨rfl, hk5, hD5⟩
                simp only [Act.put, siA, scZ, scS]
                have HF5 : Hid (FSt w n w.heap.size B mv sp mo ca we al (d.put k { d.g k with evs := (d.g k).evs ++ [x.T] }) (60 * (i : Int)) w5) := HF4.out.desk hk5 (HF4.out.dsk.event hk h20 hT hk5 hD5)
                obtain ⟨r0, rf⟩ := z3u hk HF5.out.ca
                have hcb : 0 <= ca k /\ ca k <= 60 := by have h1 := HFr.out.wait k hk; have h2 := HFr.out.pos k hk; have h3 := HCA.out k hk; omega
                have e1 : IntKind.i64.wrap (ca k + 1) = ca k + 1 := by rw [IntWalk.i64_left, z0f (by omega) (by omega)]
                have HM6 : Hid (z4q w n w.heap.size B mv (i + 1) r (w5.setCell ⟨n + 1 + 1, k, none⟩ (E F (ca k + 1)))) := zN8 HF5.out HFr.out HCA.out hk
                clear HF5 hD5 hk5 HE
                go_wp2_with fail
                go_meet
                exact ⟨r, rfl, by omega, HM6.out⟩
              · have h20' : (d.g k).evs.length = 20 := by have := HF4.out.dsk.evs k hk; omega
                have HE : Hid (Calls tP 17 #[pT (some ⟨B, 0, none⟩), E F (k : Int), .agg (z0o x.T)] w4 fun e w' => e = rT (.iface 30 (E F 12)) /\ Below w4.heap.size w4 w') := zJ8 B k hk d x.T w4 HF4.out.dsk.at_ h20'
                go_upto_region 22 with fail
                go_step
                (refine z03 rfl (pT (some ⟨B, 0, none⟩)) w4 (by go_simp; try rfl) ?_); simp only [Act.put, siA, scZ, scS]
                (refine z03 rfl (E F (k : Int)) w4 (by go_simp; try rfl) ?_); simp only [Act.put, siA, scZ, scS]
                (refine z03 rfl (pT (some ⟨g, 4, none⟩)) w4 (by go_simp; try rfl) ?_); simp only [Act.put, siA, scZ, scS]
                refine wpList_load_mid rfl 34 (.tmp 71) rfl g 4 rfl (z0o x.T).toList _ ht Tryz.underlying34 rfl (by kernel_rfl) ?_
                rw [Array.toArray_toList]
                simp only [Act.put, siA, scZ, scS]
                refine z0m rfl 17 #[pT (some ⟨B, 0, none⟩), E F (k : Int), .agg (z0o x.T)] (by go_simp; try rfl) (.iface 30 (E F 12)) HE.out ?_
                intro w5 hb5
                simp only [Act.put, siA, scZ, scS]
                have HM6 : Hid (z4q w n w.heap.size B mv (i + 1) r w5) := z7o (HF4.out.later hb5) (by omega) HFr.out HCA.out fun j => ⟨rfl, rfl, rfl⟩
                clear hb5 HE
                go_wp2_with fail
                go_meet
                exact ⟨r, rfl, by omega, HM6.out⟩
            · have b0 : (x.what == 0) = false := by simpa using c0
              clear c0
              by_cases c2 : x.what = 2
              · have b2 : (x.what == 2) = true := by rw [c2]; rfl
                clear c2
                have hL := HA.out.code x hxm
                obtain ⟨ca0, cap0, hcode, -⟩ := hL.lies
                have q2 : w4.cell? ⟨g, 2, none⟩ = some (E F x.rank) := (cell_of_row w4 g 2 _ _ _ hx4).trans rfl
                have q3 : w4.cell? ⟨g, 3, none⟩ = some (.slice ca0 x.xs.length cap0) := by rw [<- hcode]; exact (cell_of_row w4 g 3 _ _ _ hx4).trans rfl
                have HCH : Hid (Calls tP 10 #[pT (some ⟨B, 0, none⟩), E F (k : Int)] w4 fun e w' => e = rT (.tuple #[pT (some ⟨B, k * 317, none⟩), .nilIface]) /\ w' = w4) := zGo B k hk w4
                by_cases h6 : x.xs.length <= 60
                · have b6 : decide ((x.xs.length : Int) <= 60) = true := decide_eq_true (by omega)
                  have hATT := zJa B k hk d _ x.code x.xs x.rank w4 HF4.out.dsk (by omega) (by omega) (hL.later HF4.out.bel) (fun h1 a n c e => by have := hL.low h1 a n c e; have := HF4.out.o1; have := HF4.out.o2; omega)
                  rw [hcode] at hATT
                  go_upto_region 27 with (first | (go_at_call 10; go_must (refine HCH.out.mono ?_; rintro e w4 ⟨rfl, rfl⟩)) | fail)
                  go_step
                  (refine z03 rfl (pT (some ⟨B, k * 317, none⟩)) w4 (by go_simp; try rfl) ?_); simp only [Act.put, siA, scZ, scS]
                  (refine z03 rfl (pT (some ⟨g, 3, none⟩)) w4 (by go_simp; try rfl) ?_); simp only [Act.put, siA, scZ, scS]
                  (refine z03 rfl (.slice ca0 x.xs.length cap0) w4 (by go_simp; try rfl) ?_); simp only [Act.put, siA, scZ, scS]
                  (refine z03 rfl (pT (some ⟨g, 2, none⟩)) w4 (by go_simp; try rfl) ?_); simp only [Act.put, siA, scZ, scS]
                  (refine z03 rfl (E F x.rank) w4 (by go_simp; try rfl) ?_); simp only [Act.put, siA, scZ, scS]
                  refine z0p rfl 18 #[pT (some ⟨B, k * 317, none⟩), .slice ca0 x.xs.length cap0, E F x.rank] (by go_simp; try rfl) (R := fun v w' => (∃ y z, v = .tuple #[y, z]) /\ Kept B w4 w' /\ ∃ d', DOk w' B d' (60 * (i : Int) + 1) /\ zVa d k x.xs x.rank d') (hATT.mono fun e w' ⟨v, h1, h2⟩ => ⟨v, h1, h2⟩) ?_
                  rintro v w5 ⟨⟨y, z, rfl⟩, hk5, d', hd5, ha5⟩
                  simp only [Act.put, siA, scZ, scS]
                  have HM6 : Hid (z4q w n w.heap.size B mv (i + 1) r w5) := z7o (HF4.out.desk hk5 hd5) (by omega) HFr.out HCA.out ha5.same
                  clear hk5 hd5 ha5 hATT
                  go_wp2_with fail
                  go_meet
                  exact ⟨r, rfl, by omega, HM6.out⟩
                · have b6 : decide ((x.xs.length : Int) <= 60) = false := decide_eq_false (by omega)
                  go_wp2_with (first | (go_at_call 10; go_must (refine HCH.out.mono ?_; rintro e w4 ⟨rfl, rfl⟩)) | fail)
                  go_meet
                  exact ⟨r, rfl, by omega, z7o HF4.out (by omega) HFr.out HCA.out fun j => ⟨rfl, rfl, rfl⟩⟩
              · have b2 : (x.what == 2) = false := by simpa using c2
                clear c2
                by_cases c1 : x.what = 1
                · have b1 : (x.what == 1) = true := by rw [c1]; rfl
                  clear c1
                  have hR := zGn B d (60 * (i : Int)) (by omega) (by omega) w4 HF4.out.dsk HFr.out.left
                  have hfine := (z91 (dok_ps HF4.out.dsk) (by omega) 3 (Nat.le_refl _)).2
                  have hlt3 := zCk d 3
                  have HRR := HFr.out.round (fun k hk => by have := (hmv k hk).1; omega) HF4.out.dsk.evs hfine
                  have hsm : ∀ k, k < 3 -> (0 <= sp k /\ sp k <= 5300) /\ (0 <= mo k /\ mo k <= 1601) /\ (0 <= we k /\ we k <= 60) /\ (0 <= ca k /\ ca k <= 60) /\ 0 <= (r : Int) * mv k /\ (r : Int) * mv k <= 3600 := fun k hk => zKw HFr.out HF4.out.dsk.left0 hmv (by omega) (by omega) (fun k hk => by have := HCA.out k hk; omega) hk
                  have er : IntKind.i64.wrap ((r : Int) + 1) = (r : Int) + 1 := by rw [IntWalk.i64_left, z0f (by omega) (by omega)]
                  have HRR : Hid (Fr (z0g 3 d).1 mv (fun k => sp k + z1r (ofH k (z0g 3 d).2)) (fun k => z1v (mo k) (ofH k (z0g 3 d).2)) ca (fun k => we k + ((ofH k (z0g 3 d).2).length : Int)) (fun k => al k && decide ((0 : Int) < (((z0g 3 d).1.g k).evs.length : Int))) ((r : Int) + 1)) := HRR
                  generalize z0g 3 d = RR at hR hfine hlt3 HRR
                  have HSM : Hid (∀ k, k < 3 -> (0 <= sp k /\ sp k <= 5300) /\ (0 <= mo k /\ mo k <= 1601) /\ (0 <= we k /\ we k <= 60) /\ (0 <= ca k /\ ca k <= 60) /\ 0 <= (r : Int) * mv k /\ (r : Int) * mv k <= 3600) := hsm
                  clear hsm
                  go_upto_region 30 with fail
                  go_step
                  (refine z03 rfl (pT (some ⟨B, 0, none⟩)) w4 (by go_simp; try rfl) ?_); simp only [Act.put, siA, scZ, scS]
                  refine z0p rfl 19 #[pT (some ⟨B, 0, none⟩)] (by go_simp; try rfl) (R := fun vd w' => ∃ ds, Kept B w4 w' /\ DOk w' B RR.1 (60 * (i : Int) + 60) /\ DnAt w' w4.heap.size vd ds /\ dnL ds = RR.2 /\ ds.length <= 60) (hR.mono fun e w' ⟨vd, ds, h1, h2⟩ => ⟨vd, h1, ds, h2⟩) ?_
                  rintro vd w5 ⟨ds, hk5, hO5, hd5, hm5, hl5⟩
                  simp only [Act.put, siA, scZ, scS]
                  have HR0 : Hid (RSt w n w.heap.size B mv sp mo ca we al RR.1 (60 * (i : Int) + 60) w4.heap.size vd ds 0 w5) := RSt.start (HF4.out.desk hk5 hO5) hd5.1
                  have HV : Hid (∀ x, x ∈ ds -> x.v.oneCell' = true) := fun x hx => by rcases rowShape (hd5.2 x hx) with ⟨e, -⟩ | ⟨g, c, e⟩ <;> rw [e] <;> rfl
                  have hn4 := HF4.out.size
                  obtain ⟨va, vc, rfl⟩ := z4c hd5.1
                  rw [<- hm5] at hfine hlt3 HRR
                  have HFI : Hid (∀ x, x ∈ dnL ds -> 0 <= x.2.steps /\ x.2.steps <= 1600) := hfine
                  have HLT : Hid (∀ x, x ∈ dnL ds -> x.1 < 3) := hlt3
                  clear hR hfine hlt3 hk5 hO5 hd5 hm5
                  generalize w4.heap.size = base at HR0 hn4
                  go_upto_region 31 with fail
                  go_loopw [109] (fun qv wr => ∃ q : Nat, qv = E F q /\ q <= ds.length /\ Hid (RSt w n w.heap.size B mv sp mo ca we al RR.1 (60 * (i : Int) + 60) base (.slice va ds.length vc) ds q wr)) (fun qv _ => ds.length - (intOf qv).toNat)
                  case atStart => exact ⟨0, rfl, Nat.zero_le _, HR0.out⟩
                  case round => as_aux_lemma =>
                    clear HR0
                    obtain ⟨q, rfl, hql, HQ⟩ := hrel
                    have hq0 : (0 : Int) <= (q : Int) := by omega
                    by_cases hq : q < ds.length
                    · have hq' : (q : Int) < (ds.length : Int) := by omega
                      obtain ⟨y, hy⟩ : ∃ y, ds[q]? = some y := ⟨ds[q], List.getElem?_eq_getElem hq⟩
                      have hym : y ∈ ds := List.mem_of_getElem? hy
                      have hyk : y.k < 3 := HLT.out (y.k, y.s) (List.mem_map.2 ⟨y, hym, rfl⟩)
                      have hys : 0 <= y.s.steps /\ y.s.steps <= 1600 := HFI.out (y.k, y.s) (List.mem_map.2 ⟨y, hym, rfl⟩)
                      obtain ⟨gd, rfl⟩ : ∃ gd, va = some ⟨gd, 0, none⟩ := by
                        rcases rowShape HQ.out.own with ⟨-, e⟩ | ⟨g, c, e⟩
                        · omega
                        · injection e with e1 _ _; exact ⟨g, e1⟩
                      have hrow := zUk HQ.out.own hy
                      go_upto_region 32 with fail
                      go_step
                      (refine z03 rfl (pT (some ⟨gd, q * 5, none⟩)) wr (by go_simp; try rfl) ?_); simp only [Act.put, siA, scZ, scS]
                      refine wpList_load_mid rfl 77 (.tmp 111) rfl gd (q * 5) rfl y.cells _ hrow Tryz.underlying77 rfl (by kernel_rfl) ?_
                      simp only [Act.put, siA, scZ, scS]
                      (refine z03 rfl (pT (some ⟨wr.heap.size, 0, none⟩)) (wr.alloc (cT dnZ 77)) (by go_simp; try rfl) ?_); simp only [Act.put, siA, scZ, scS]
                      refine wpList_store_row rfl 77 (.tmp 20) (.tmp 112) rfl wr.heap.size y.cells.toArray rfl rfl 77 dnZ (heap_alloc_new wr _) (by kernel_rfl) rfl (dn_one (HV.out y hym)) ?_
                      simp only [Act.put, siA, scZ, scS]
                      obtain ⟨hb6, hx6⟩ := zPv wr dnZ y.cells.toArray 77
                      have HQ6 : Hid (RSt w n w.heap.size B mv sp mo ca we al RR.1 (60 * (i : Int) + 60) base (.slice (some ⟨gd, 0, none⟩) ds.length vc) ds q _) := HQ.out.later hb6
                      have hgn : n + 1 + 1 + 1 + 1 < wr.heap.size := HQ.out.fst.size
                      clear hb6 HQ hrow
                      generalize (wr.alloc (cT dnZ 77)).setRow wr.heap.size y.cells.toArray = w6 at hx6 HQ6 ⊢
                      generalize wr.heap.size = g2 at hx6 hgn ⊢
                      have hts := zHy hl5 HFI.out q y.k (HSM.out y.k hyk).2.1.1 (HSM.out y.k hyk).2.1.2
                      obtain ⟨⟨s1, s2⟩, -, ⟨s5, s6⟩, -, -, -⟩ := HSM.out y.k hyk
                      obtain ⟨⟨t1, t2⟩, ⟨t3, t4⟩, t5⟩ := hts
                      obtain ⟨y1, y2⟩ := hys
                      have p0 : w6.cell? ⟨g2, 0, none⟩ = some (E F (y.k : Int)) := (cell_of_row w6 g2 0 _ _ _ hx6).trans rfl
                      have p4 : w6.cell? ⟨g2, 4, none⟩ = some (E F y.s.steps) := (cell_of_row w6 g2 4 _ _ _ hx6).trans rfl
                      have hy0 : (0 : Int) <= (y.k : Int) := by omega
                      have hy3 : (y.k : Int) < 3 := by omega
                      have d1 : decide ((y.k : Int) < 0) = false := decide_eq_false (by omega)
                      have d2 : decide (2 < (y.k : Int)) = false := decide_eq_false (by omega)
                      have d3 : decide (y.s.steps < 0) = false := decide_eq_false (by omega)
                      have e35 : IntKind.i64.wrap (y.s.steps + 1) = y.s.steps + 1 := by rw [IntWalk.i64_left, z0f (by omega) (by omega)]
                      have e36 : IntKind.i64.wrap ((sp y.k + z1r (ofH y.k ((dnL ds).take q))) + (y.s.steps + 1)) = (sp y.k + z1r (ofH y.k ((dnL ds).take q))) + (y.s.steps + 1) := by rw [IntWalk.i64_left, z0f (by omega) (by omega)]
                      obtain ⟨r6, f6⟩ := z3u hyk HQ6.out.fst.sp
                      go_upto_region 37 with fail
                      have HF7 : Hid (FSt w n w.heap.size B mv (up3 (fun k => sp k + z1r (ofH k ((dnL ds).take q))) y.k ((sp y.k + z1r (ofH y.k ((dnL ds).take q))) + (y.s.steps + 1))) (fun k => z1v (mo k) (ofH k ((dnL ds).take q))) ca (fun k => we k + ((ofH k ((dnL ds).take q)).length : Int)) al RR.1 (60 * (i : Int) + 60) (w6.setCell ⟨n, y.k, none⟩ (E F ((sp y.k + z1r (ofH y.k ((dnL ds).take q))) + (y.s.steps + 1))))) := HQ6.out.fst.setSp hyk _
                      have HO7 : Hid ((w6.setCell ⟨n, y.k, none⟩ (E F ((sp y.k + z1r (ofH y.k ((dnL ds).take q))) + (y.s.steps + 1)))).ownsRow base 77 5 (.slice (some ⟨gd, 0, none⟩) ds.length vc) ds.length (z2k ds)) := zIi HQ6.out.own (by omega)
                      have hx7 : (w6.setCell ⟨n, y.k, none⟩ (E F ((sp y.k + z1r (ofH y.k ((dnL ds).take q))) + (y.s.steps + 1)))).heap[g2]? = _ := (heap_setCell_other w6 ⟨n, y.k, none⟩ g2 _ (by show g2 ≠ n; omega)).trans hx6
                      clear HQ6 hx6 p0 p4 r6 f6 e36
                      generalize w6.setCell ⟨n, y.k, none⟩ (E F ((sp y.k + z1r (ofH y.k ((dnL ds).take q))) + (y.s.steps + 1))) = w7 at HF7 HO7 hx7 ⊢
                      have p0 : w7.cell? ⟨g2, 0, none⟩ = some (E F (y.k : Int)) := (cell_of_row w7 g2 0 _ _ _ hx7).trans rfl
                      obtain ⟨r7, f7⟩ := z3u hyk HF7.out.mo
                      go_cut [] (fun wx => Hid (FSt w n w.heap.size B mv (up3 (fun k => sp k + z1r (ofH k ((dnL ds).take q))) y.k ((sp y.k + z1r (ofH y.k ((dnL ds).take q))) + (y.s.steps + 1))) (up3 (fun k => z1v (mo k) (ofH k ((dnL ds).take q))) y.k (max (z1v (mo y.k) (ofH y.k ((dnL ds).take q))) (y.s.steps + 1))) ca (fun k => we k + ((ofH k ((dnL ds).take q)).length : Int)) al RR.1 (60 * (i : Int) + 60) wx /\ wx.ownsRow base 77 5 (.slice (some ⟨gd, 0, none⟩) ds.length vc) ds.length (z2k ds) /\ wx.heap[g2]? = some (cT y.cells.toArray 77 (0, 0))))
                      case first => as_aux_lemma =>
                        go_region
                        all_goals go_wp2_with fail
                        all_goals go_meet
                        exact ⟨(HF7.out.setMo hyk _).drew, zIi HO7.out (by omega), (heap_setCell_other w7 ⟨n + 1, y.k, none⟩ g2 _ (by show g2 ≠ n + 1; omega)).trans hx7⟩
                      case rest => as_aux_lemma =>
                        clear HF7 HO7 hx7 p0 r7 f7
                        have p0 : wc.cell? ⟨g2, 0, none⟩ = some (E F (y.k : Int)) := (cell_of_row wc g2 0 _ _ _ hcut.out.2.2).trans rfl
                        obtain ⟨r8, f8⟩ := z3u hyk hcut.out.1.we
                        have e38 : IntKind.i64.wrap ((we y.k + ((ofH y.k ((dnL ds).take q)).length : Int)) + 1) = (we y.k + ((ofH y.k ((dnL ds).take q)).length : Int)) + 1 := by rw [IntWalk.i64_left, z0f (by omega) (by omega)]
                        have HQ9 : Hid (RSt w n w.heap.size B mv sp mo ca we al RR.1 (60 * (i : Int) + 60) base (.slice (some ⟨gd, 0, none⟩) ds.length vc) ds (q + 1) (wc.setCell ⟨n + 1 + 1 + 1, y.k, none⟩ (E F ((we y.k + ((ofH y.k ((dnL ds).take q)).length : Int)) + 1)))) := RSt.close hy (hcut.out.1.setWe hyk _) (zIi hcut.out.2.1 (by omega))
                        clear hcut
                        go_wp2_with fail
                        exact ⟨⟨q + 1, z5i q, by omega, HQ9.out⟩, by show ds.length - ((q : Int) + 1).toNat < ds.length - (q : Int).toNat; omega⟩
                    · have hq' : ¬ ((q : Int) < (ds.length : Int)) := by omega
                      have HF0 : Hid (FSt w n w.heap.size B mv (fun k => sp k + z1r (ofH k (dnL ds))) (fun k => z1v (mo k) (ofH k (dnL ds))) ca (fun k => we k + ((ofH k (dnL ds)).length : Int)) (alF al RR.1 0) RR.1 (60 * (i : Int) + 60) wr) := by
                        have h := HQ.out.fst
                        rw [List.take_of_length_le (by unfold dnL; rw [List.length_map]; omega)] at h
                        exact h
                      clear HQ
                      have hqb : decide ((q : Int) < (ds.length : Int)) = false := decide_eq_false hq'
                      go_upto_region 41 with fail
                      go_loopw [22] (fun jv wr => ∃ j : Nat, jv = E F j /\ j <= 3 /\ Hid (FSt w n w.heap.size B mv (fun k => sp k + z1r (ofH k (dnL ds))) (fun k => z1v (mo k) (ofH k (dnL ds))) ca (fun k => we k + ((ofH k (dnL ds)).length : Int)) (alF al RR.1 j) RR.1 (60 * (i : Int) + 60) wr)) (fun jv _ => 3 - (intOf jv).toNat)
                      case atStart => exact ⟨0, rfl, by decide, HF0.out⟩
                      case round => as_aux_lemma =>
                        clear HF0
                        obtain ⟨j, rfl, hj3, HJ⟩ := hrel
                        have hj0 : (0 : Int) <= (j : Int) := by omega
                        by_cases hj : j < 3
                        · have hj' : (j : Int) < 3 := by omega
                          obtain ⟨r9, f9⟩ := zFp hj HJ.out.al
                          rw [zV8] at r9
                          have HW : Hid (Calls tP 11 #[pT (some ⟨B, 0, none⟩), E F (j : Int)] wr fun e w' => e = rT (E F ((RR.1.g j).evs.length : Int)) /\ w' = wr) := zB2 B j hj RR.1 wr HJ.out.dsk.at_
                          have HJ2 := HJ.out.setAl hj (al j && decide ((0 : Int) < ((RR.1.g j).evs.length : Int)))
                          rw [alF_up] at HJ2
                          cases ha : al j with
                          | true =>
                            rw [ha] at r9 HJ2
                            rw [Bool.true_and] at HJ2
                            have HJ3 : Hid (FSt w n w.heap.size B mv (fun k => sp k + z1r (ofH k (dnL ds))) (fun k => z1v (mo k) (ofH k (dnL ds))) ca (fun k => we k + ((ofH k (dnL ds)).length : Int)) (alF al RR.1 (j + 1)) RR.1 (60 * (i : Int) + 60) (wr.setCell ⟨n + 1 + 1 + 1 + 1, j, none⟩ (.bool (decide (0 < (RR.1.g j).evs.length))))) := by rw [show decide (0 < (RR.1.g j).evs.length) = decide ((0 : Int) < ((RR.1.g j).evs.length : Int)) by simp]; exact HJ2
                            clear HJ2 ha
                            go_wp2_with (first | (go_at_call 11; go_must (refine HW.out.mono ?_; rintro e wr ⟨rfl, rfl⟩)) | fail)
                            exact ⟨⟨j + 1, z5i j, by omega, HJ3.out⟩, by show 3 - ((j : Int) + 1).toNat < 3 - (j : Int).toNat; omega⟩
                          | false =>
                            rw [ha] at r9 HJ2
                            rw [Bool.false_and] at HJ2
                            have HJ3 : Hid (FSt w n w.heap.size B mv (fun k => sp k + z1r (ofH k (dnL ds))) (fun k => z1v (mo k) (ofH k (dnL ds))) ca (fun k => we k + ((ofH k (dnL ds)).length : Int)) (alF al RR.1 (j + 1)) RR.1 (60 * (i : Int) + 60) (wr.setCell ⟨n + 1 + 1 + 1 + 1, j, none⟩ (.bool false))) := HJ2
                            clear HJ2 ha
                            go_wp2_with fail
                            exact ⟨⟨j + 1, z5i j, by omega, HJ3.out⟩, by show 3 - ((j : Int) + 1).toNat < 3 - (j : Int).toNat; omega⟩
                        · have hj' : j = 3 := by omega
                          subst hj'
                          have HM9 : Hid (z4q w n w.heap.size B mv (i + 1) (r + 1) wr) := ⟨_, _, _, _, _, _, HJ.out.mono (by omega), HRR.out.al_eq (fun k hk => if_pos hk), fun k hk => by have := HCA.out k hk; omega⟩
                          clear HJ
                          go_wp2_with fail
                          go_meet
                          exact ⟨r + 1, z5i r, by omega, HM9.out⟩
                · have b1 : (x.what == 1) = false := by simpa using c1
                  clear c1
                  go_wp2_with fail
                  go_meet
                  exact ⟨r, rfl, by omega, z7o HF4.out (by omega) HFr.out HCA.out fun j => ⟨rfl, rfl, rfl⟩⟩
          case rest => as_aux_lemma =>
            clear HF4 HFr HCA q0 q1 hx4
            obtain ⟨r', rfl, hr', HM5⟩ := hcut
            go_upto_region 45 with fail
            go_loopw [23] (fun jv wr => ∃ j : Nat, jv = E F j /\ j <= 3 /\ Hid (z4q w n w.heap.size B mv (i + 1) r' wr)) (fun jv _ => 3 - (intOf jv).toNat)
            case atStart => exact ⟨0, rfl, by decide, HM5.out⟩
            case round => as_aux_lemma =>
              clear HM5
              obtain ⟨j, rfl, hj3, HJ⟩ := hrel
              have hj0 : (0 : Int) <= (j : Int) := by omega
              by_cases hj : j < 3
              · have hj' : (j : Int) < 3 := by omega
                obtain ⟨d, sp, mo, ca, we, al, hF, hFr, hca⟩ := HJ.out.ex
                obtain ⟨s1, s2, s3, s4, s5, s6⟩ := zKw hFr hF.dsk.left0 hmv (by omega) (by omega) (fun k hk => by have := hca k hk; omega) hj
                have hh := hFr.holds hj
                have hw := hFr.wait j hj
                have HW : Hid (∀ W : World, W.heap = wr.heap -> Calls tP 11 #[pT (some ⟨B, 0, none⟩), E F (j : Int)] W fun e w' => e = rT (E F (ca j - we j)) /\ w' = W) := fun W hW => by
                  have h := zB2 B j hj d W (FnAt.block hF.dsk.at_ (by rw [hW]))
                  rw [hw] at h
                  exact h
                obtain ⟨u1, v1⟩ := z3u hj hF.may
                obtain ⟨u2, v2⟩ := z3u hj hF.sp
                obtain ⟨u3, v3⟩ := z3u hj hF.mo
                obtain ⟨u4, v4⟩ := z3u hj hF.ca
                obtain ⟨u5, v5⟩ := z3u hj hF.we
                obtain ⟨u6, v6⟩ := zFp hj hF.al
                have e1 : IntKind.i64.wrap (ca j - we j) = ca j - we j := by rw [IntWalk.i64_left, z0f (by omega) (by omega)]
                have e2 : IntKind.i64.wrap ((r' : Int) * mv j) = (r' : Int) * mv j := by rw [IntWalk.i64_left, z0f (by omega) (by omega)]
                have e3 : IntKind.i64.wrap ((r' : Int) * mv j + mo j) = (r' : Int) * mv j + mo j := by rw [IntWalk.i64_left, z0f (by omega) (by omega)]
                have t1 : decide ((r' : Int) * mv j + mo j < sp j) = false := decide_eq_false (by have := hh.1; omega)
                have HH : Hid (al j = true -> decide (sp j < (r' : Int) * mv j) = false) := fun ha => decide_eq_false (by have := hh.2 ha; omega)
                clear hF hFr hca hw hh s1 s2 s3 s4 s5 s6
                go_upto_region 47 with fail
                go_cut [218] (fun c wx => c = .bool false /\ Hid (z4q w n w.heap.size B mv (i + 1) r' wx))
                case first => as_aux_lemma =>
                  by_cases hr0 : 0 < r'
                  · have t2 : decide ((0 : Int) < (r' : Int)) = true := decide_eq_true (by omega)
                    cases ha : al j with
                    | true =>
                      have t3 := HH.out ha
                      rw [ha] at u6
                      clear ha
                      go_quiet ((go_at_call 11; exact Calls.quiet_of_same (HW.out _ rfl)))
                      go_wp2_with fail
                      go_meet
                      exact ⟨rfl, HJ.out.drewN nq⟩
                    | false =>
                      rw [ha] at u6
                      clear ha
                      go_quiet ((go_at_call 11; exact Calls.quiet_of_same (HW.out _ rfl)))
                      go_wp2_with fail
                      go_meet
                      exact ⟨rfl, HJ.out.drewN nq⟩
                  · have t2 : decide ((0 : Int) < (r' : Int)) = false := decide_eq_false (by omega)
                    go_quiet ((go_at_call 11; exact Calls.quiet_of_same (HW.out _ rfl)))
                    go_wp2_with fail
                    go_meet
                    exact ⟨rfl, HJ.out.drewN nq⟩
                case rest => as_aux_lemma =>
                  clear HJ HW HH u1 v1 u2 v2 u3 v3 u4 v4 u5 v5 u6 v6 e1 e2 e3 t1
                  obtain ⟨rfl, HJ5⟩ := hcut
                  go_wp2_with fail
                  exact ⟨⟨j + 1, z5i j, by omega, HJ5.out⟩, by show 3 - ((j : Int) + 1).toNat < 3 - (j : Int).toNat; omega⟩
              · have hj' : ¬ ((j : Int) < 3) := by omega
                have ei : IntKind.i64.wrap ((i : Int) + 1) = (i : Int) + 1 := by rw [IntWalk.i64_left, z0f (by omega) (by omega)]
                go_wp2_with fail
                exact ⟨⟨r', i + 1, rfl, z5i i, by omega, by omega, HJ.out⟩, by show xs.length - ((i : Int) + 1).toNat < xs.length - (i : Int).toNat; omega⟩
        · have hi' : ¬ ((i : Int) < (xs.length : Int)) := by omega
          obtain ⟨d, sp, mo, ca, we, al, hF, -, -⟩ := H.out.ex
          have hbel := hF.bel
          clear hF H
          go_wp2_with fail
          go_ret
          exact ⟨rfl, hbel⟩
theorem zR7 (m : Nat -> Int) (a : Option Addr) (len cap : Nat) (w : World) (h60 : 60 < len) :
  Calls tP 4 #[.agg (arr3 m), .slice a len cap] w fun e w' => e = rT (.bool true) /\ Below w.heap.size w w' := by
 have z60 : decide (60 < (len : Int)) = true := decide_eq_true (by omega)
 have hb : Below w.heap.size w (w.alloc (cT (arr3 m) 22)) := (bF _ _).alloc (Nat.le_refl _) _
 go_enter Tryz.func4, Tryz.ntmps4
 go_upto_region 1 with fail
 change Code.wp _ _ _ _ (w.alloc (cT (arr3 m) 22))
 generalize w.alloc (cT (arr3 m) 22) = w0 at hb ⊢
 go_wp2_with fail
 go_ret
 exact ⟨rfl, hb⟩
end
section
/-! ### From the reading to the cells -/
/-- What the walk is told of a list that came in: it is empty, or there are steps in a block, with numbers of 64 bits. -/
def zLe (w : World) (a : Option Addr) (len : Nat) : Prop :=
 len = 0 \/ ∃ (bk off : Nat) (C D S O N : Nat -> Int) (R : Nat -> Bool), a = some ⟨bk, off, none⟩ /\ bk < w.heap.size /\ z1l w bk off len C D S R O N /\ ∀ i, i < len -> Fits (O i) /\ Fits (N i)
theorem zQx {n : Int} (h : (Lit.int .i64 n).wf = true) : Fits n := by
 have h' : (decide (-9223372036854775808 <= n) && decide (n <= 9223372036854775807)) = true := h
 simp at h'
 exact h'
theorem z7k {w : World} {base : Nat} {a : Addr} {n : Nat} {cs : List Value} (h : w.cells? base a n = some cs) (i : Nat) (hi : i < n) : w.cell? (a.add i) = cs[i]? := by
 unfold World.cells? at h
 split at h
 ·exact mapM_some_get h i i (by simp [hi])
 ·cases h
theorem six {l : List Value} (h : l.length = 6) : ∃ a b c d e f, l = [a, b, c, d, e, f] := by
 match l, h with
 | [a, b, c, d, e, f], _ => exact ⟨a, b, c, d, e, f, rfl⟩
section
variable {H : Type} {enc : TypeId × Value -> H} {w : World}
theorem zP4 {n : Nat} {cs : List Value} {x : DataW H × List MemPlace} (h : DataW.trod enc tP w 0 (fun _ => true) true n 80 cs = some x) :
  ∃ y : Int × Int × Int × Bool × Int × Int, cs = [.int .i64 y.1, .int .i64 y.2.1, .int .i64 y.2.2.1, .bool y.2.2.2.1, .int .i64 y.2.2.2.2.1, .int .i64 y.2.2.2.2.2] /\ Fits y.2.2.2.2.1 /\ Fits y.2.2.2.2.2 := by
 obtain ⟨xs, m, _, _, hl, hx, hf⟩ := DataW.trod_struct Tryz.underlying80 h
 have hl6 : cs.length = 6 := by rw [hl]; kernel_rfl
 have hx6 : xs.length = 6 := hx
 obtain ⟨a, b, c, d, e, f, rfl⟩ := six hl6
 have k3 : Tryz.prog.cellsOf 3 = 1 := by kernel_rfl
 have k2 : Tryz.prog.cellsOf 2 = 1 := by kernel_rfl
 have k4 : Tryz.prog.cellsOf 4 = 1 := by kernel_rfl
 have at_ : ∀ i, i < 6 -> ∃ y, xs[i]? = some y := fun i hi => ⟨xs[i]'(by omega), List.getElem?_eq_getElem _⟩
 obtain ⟨y0, e0⟩ := at_ 0 (by decide)
 obtain ⟨y1, e1⟩ := at_ 1 (by decide)
 obtain ⟨y2, e2⟩ := at_ 2 (by decide)
 obtain ⟨y3, e3⟩ := at_ 3 (by decide)
 obtain ⟨y4, e4⟩ := at_ 4 (by decide)
 obtain ⟨y5, e5⟩ := at_ 5 (by decide)
 have f0 : DataW.trod enc tP w 0 (fun _ => true) true m 3 (([a, b, c, d, e, f].drop 0).take (Tryz.prog.cellsOf 3)) = some y0 := (hf 0 _ rfl).trans e0
 have f1 : DataW.trod enc tP w 0 (fun _ => true) true m 3 (([a, b, c, d, e, f].drop 1).take (Tryz.prog.cellsOf 3)) = some y1 := (hf 1 _ rfl).trans e1
 have f2 : DataW.trod enc tP w 0 (fun _ => true) true m 3 (([a, b, c, d, e, f].drop 2).take (Tryz.prog.cellsOf 3)) = some y2 := (hf 2 _ rfl).trans e2
 have f3 : DataW.trod enc tP w 0 (fun _ => true) true m 4 (([a, b, c, d, e, f].drop 3).take (Tryz.prog.cellsOf 4)) = some y3 := (hf 3 _ rfl).trans e3
 have f4 : DataW.trod enc tP w 0 (fun _ => true) true m 3 (([a, b, c, d, e, f].drop 4).take (Tryz.prog.cellsOf 3)) = some y4 := (hf 4 _ rfl).trans e4
 have f5 : DataW.trod enc tP w 0 (fun _ => true) true m 2 (([a, b, c, d, e, f].drop 5).take (Tryz.prog.cellsOf 2)) = some y5 := (hf 5 _ rfl).trans e5
 rw [k3] at f0 f1 f2 f4
 rw [k4] at f3
 rw [k2] at f5
 obtain ⟨n0, g0, _, _⟩ := DataW.trod_int Tryz.underlying3 f0
 obtain ⟨n1, g1, _, _⟩ := DataW.trod_int Tryz.underlying3 f1
 obtain ⟨n2, g2, _, _⟩ := DataW.trod_int Tryz.underlying3 f2
 obtain ⟨n3, g3, _⟩ := DataW.trod_bool Tryz.underlying4 f3
 obtain ⟨n4, g4, _, b4⟩ := DataW.trod_int Tryz.underlying3 f4
 obtain ⟨n5, g5, _, b5⟩ := DataW.trod_int Tryz.underlying2 f5
 simp at g0 g1 g2 g3 g4 g5
 exact ⟨(n0, n1, n2, n3, n4, n5), by rw [g0, g1, g2, g3, g4, g5], zQx b4, zQx b5⟩
theorem zM8 {a : Option Addr} {len cap : Nat} {d : DataW H} {ps : List MemPlace} (h : DataW.Trod enc tP w 0 (fun _ => true) true 33 (.slice a len cap) d ps) : zLe w a len := by
 obtain ⟨fuel, hf⟩ := h
 rcases Deep.open_slice Tryz.underlying33 hf with ⟨hcs, _⟩ | ⟨x, l, c, m, n, Da, Pl, hcs, _, hl, hm, hmm, _, hx⟩
 ·simp [Value.cells] at hcs
  exact Or.inl hcs.2.1
 ·simp [Value.cells] at hcs
  obtain ⟨rfl, rfl, rfl⟩ := hcs
  by_cases h0 : len = 0
  ·exact Or.inl h0
  have hc6 : Tryz.prog.cellsOf 80 = 6 := by kernel_rfl
  have all : ∀ i, ∃ y : Int × Int × Int × Bool × Int × Int, i < len -> (∀ j, j < 6 -> w.cell? ((x.add (i * 6)).add j) = [Value.int .i64 y.1, .int .i64 y.2.1, .int .i64 y.2.2.1, .bool y.2.2.2.1, .int .i64 y.2.2.2.2.1, .int .i64 y.2.2.2.2.2][j]?) /\ Fits y.2.2.2.2.1 /\ Fits y.2.2.2.2.2 := by
   intro i
   by_cases hi : i < len
   ·have him : i < m := by rw [hmm]; simp; omega
    obtain ⟨cs, hcc, ht⟩ := hx i him
    rw [hc6] at hcc
    obtain ⟨y, hy, hf4, hf5⟩ := zP4 ht
    refine ⟨y, fun _ => ⟨fun j hj => ?_, hf4, hf5⟩⟩
    rw [<- hy]
    exact z7k hcc j hj
   ·exact ⟨(0, 0, 0, false, 0, 0), fun h => absurd h hi⟩
  obtain ⟨f, hf'⟩ := Classical.axiomOfChoice all
  obtain ⟨b, off, spot⟩ := x
  have hc0 := (hf' 0 (by omega)).1 0 (by decide)
  have hspot : spot = none := by simpa [Addr.add] using World.cell?_spot hc0
  subst hspot
  have hb : b < w.heap.size := by
   rcases Nat.lt_or_ge b w.heap.size with g | g
   ·exact g
   ·simp [World.cell?, Addr.add, Array.getElem?_eq_none g] at hc0
  refine Or.inr ⟨b, off, fun i => (f i).1, fun i => (f i).2.1, fun i => (f i).2.2.1, fun i => (f i).2.2.2.2.1, fun i => (f i).2.2.2.2.2, fun i => (f i).2.2.2.1, rfl, hb, fun i hi => ?_, fun i hi => (hf' i hi).2⟩
  have g : ∀ j, j < 6 -> w.cell? ⟨b, off + i * 6 + j, none⟩ = [Value.int .i64 (f i).1, .int .i64 (f i).2.1, .int .i64 (f i).2.2.1, .bool (f i).2.2.2.1, .int .i64 (f i).2.2.2.2.1, .int .i64 (f i).2.2.2.2.2][j]? := fun j hj => by
   rw [<- Go.WideShapes.add_plain, <- Go.WideShapes.add_plain]; exact (hf' i hi).1 j hj
  exact ⟨g 0 (by decide), g 1 (by decide), g 2 (by decide), g 3 (by decide), g 4 (by decide), g 5 (by decide)⟩
end
end
section
section
variable {H : Type} {enc : TypeId × Value -> H} {w : World}
theorem zNg {a : Option Addr} {len cap : Nat} (h : zLe w a len) : ∃ xs, LsAt w (.slice a len cap) xs := by
 rcases h with h | ⟨bk, off, C, D, S, O, N, R, e, hb, hst, hf⟩
 ·exact ⟨[], ⟨a, cap, by rw [h]; rfl, Or.inl rfl⟩, fun j hj => absurd hj (Nat.not_lt_zero _)⟩
 ·have hl : (zA1 len C D S R O N).length = len := by unfold zA1; simp
  have hn : ∀ j, j < len -> nth (zA1 len C D S R O N) j = ⟨C j, D j, S j, R j, O j, N j⟩ := fun j hj => by
   unfold nth zA1
   rw [List.getElem?_map, List.getElem?_range hj]
   rfl
  refine ⟨zA1 len C D S R O N, ⟨a, cap, by rw [hl], Or.inr ⟨bk, off, e, hb, ?_⟩⟩, fun j hj => ?_⟩
  ·rw [hl]
   intro i hi
   have := hst i hi
   dsimp only
   rw [hn i hi]
   exact this
  ·rw [hl] at hj
   rw [hn j hj]
   exact hf j hj
theorem zNv {n : Nat} {cs : List Value} {x : DataW H × List MemPlace} (hl : cs.length = 8) (h : DataW.trod enc tP w 0 (fun _ => true) true n 34 cs = some x) : ∃ T : Nat -> Int, cs = [E F (T 0), E F (T 1), E F (T 2), E F (T 3), E F (T 4), E F (T 5), E F (T 6), E F (T 7)] /\ ∀ i, i < 8 -> In64 (T i) := by
 obtain ⟨xs, m, _, _, _, hx, hi⟩ := DataW.trod_array Tryz.underlying34 h
 have k2 : Tryz.prog.cellsOf 2 = 1 := by kernel_rfl
 have all : ∀ i, ∃ n : Int, i < 8 -> cs[i]? = some (E F n) /\ In64 n := by
  intro i
  by_cases h8 : i < 8
  ·have e := hi i h8
   rw [k2, Nat.mul_one, List.getElem?_eq_getElem (by omega)] at e
   obtain ⟨n, g, _, wf⟩ := DataW.trod_int Tryz.underlying2 e
   have g1 : cs[i]? = some (E F n) := by
    have e1 : ((cs.drop i).take 1)[0]? = some (E F n) := by rw [g]; rfl
    rw [List.getElem?_take, if_pos (by decide), List.getElem?_drop] at e1
    exact e1
   exact ⟨n, fun _ => ⟨g1, bounds_i64 wf⟩⟩
  ·exact ⟨0, fun h => absurd h h8⟩
 obtain ⟨T, hT⟩ := Classical.axiomOfChoice all
 refine ⟨T, ?_, fun i h8 => (hT i h8).2⟩
 apply List.ext_getElem?
 intro i
 by_cases h8 : i < 8
 ·rw [(hT i h8).1]
  rcases (show i = 0 \/ i = 1 \/ i = 2 \/ i = 3 \/ i = 4 \/ i = 5 \/ i = 6 \/ i = 7 by omega) with rfl | rfl | rfl | rfl | rfl | rfl | rfl | rfl <;> rfl
 ·rw [List.getElem?_eq_none (by omega), List.getElem?_eq_none (by simp; omega)]
theorem twelve {l : List Value} (h : l.length = 12) : ∃ a b c d e f g i j k m n, l = [a, b, c, d, e, f, g, i, j, k, m, n] := by
 match l, h with
 | [a, b, c, d, e, f, g, i, j, k, m, n], _ => exact ⟨a, b, c, d, e, f, g, i, j, k, m, n, rfl⟩
theorem zV9 {n : Nat} {cs : List Value} {x : DataW H × List MemPlace} (h : DataW.trod enc tP w 0 (fun _ => true) true n 67 cs = some x) :
  ∃ y : Ac, cs = y.cs.toList /\ LsAt w y.code y.xs /\ (∀ i, i < 8 -> In64 (y.T i)) := by
 obtain ⟨xs, m, _, _, hl, hx, hf⟩ := DataW.trod_struct Tryz.underlying67 h
 have hl12 : cs.length = 12 := by rw [hl]; kernel_rfl
 have hx5 : xs.length = 5 := hx
 obtain ⟨a, b, c, d, e, f, g, i, j, k, m1, n1, rfl⟩ := twelve hl12
 have k3 : Tryz.prog.cellsOf 3 = 1 := by kernel_rfl
 have k4 : Tryz.prog.cellsOf 33 = 1 := by kernel_rfl
 have k8 : Tryz.prog.cellsOf 34 = 8 := by kernel_rfl
 have at_ : ∀ i, i < 5 -> ∃ y, xs[i]? = some y := fun i hi => ⟨xs[i]'(by omega), List.getElem?_eq_getElem _⟩
 obtain ⟨y0, e0⟩ := at_ 0 (by decide)
 obtain ⟨y1, e1⟩ := at_ 1 (by decide)
 obtain ⟨y2, e2⟩ := at_ 2 (by decide)
 obtain ⟨y3, e3⟩ := at_ 3 (by decide)
 obtain ⟨y4, e4⟩ := at_ 4 (by decide)
 have f0 : DataW.trod enc tP w 0 (fun _ => true) true m 3 (([a, b, c, d, e, f, g, i, j, k, m1, n1].drop 0).take (Tryz.prog.cellsOf 3)) = some y0 := (hf 0 _ rfl).trans e0
 have f1 : DataW.trod enc tP w 0 (fun _ => true) true m 3 (([a, b, c, d, e, f, g, i, j, k, m1, n1].drop 1).take (Tryz.prog.cellsOf 3)) = some y1 := (hf 1 _ rfl).trans e1
 have f2 : DataW.trod enc tP w 0 (fun _ => true) true m 3 (([a, b, c, d, e, f, g, i, j, k, m1, n1].drop 2).take (Tryz.prog.cellsOf 3)) = some y2 := (hf 2 _ rfl).trans e2
 have f3 : DataW.trod enc tP w 0 (fun _ => true) true m 33 (([a, b, c, d, e, f, g, i, j, k, m1, n1].drop 3).take (Tryz.prog.cellsOf 33)) = some y3 := (hf 3 _ rfl).trans e3
 have f4 : DataW.trod enc tP w 0 (fun _ => true) true m 34 (([a, b, c, d, e, f, g, i, j, k, m1, n1].drop 4).take (Tryz.prog.cellsOf 34)) = some y4 := (hf 4 _ rfl).trans e4
 rw [k3] at f0 f1 f2
 rw [k4] at f3
 rw [k8] at f4
 obtain ⟨n0, g0, _, _⟩ := DataW.trod_int Tryz.underlying3 f0
 obtain ⟨n2, g1, _, _⟩ := DataW.trod_int Tryz.underlying3 f1
 obtain ⟨n3, g2, _, _⟩ := DataW.trod_int Tryz.underlying3 f2
 obtain ⟨T, g4, hT⟩ := zNv rfl f4
 have f3' : DataW.trod enc tP w 0 (fun _ => true) true m 33 [d] = some y3 := f3
 obtain ⟨p, len, cap, rfl⟩ : ∃ p len cap, d = .slice p len cap := by
  rcases Deep.open_slice Tryz.underlying33 f3' with ⟨hcs, _⟩ | ⟨x, l, c, m, n, Da, Pl, hcs, _⟩
  ·exact ⟨_, _, _, List.singleton_inj.1 hcs⟩
  ·exact ⟨_, _, _, List.singleton_inj.1 hcs⟩
 obtain ⟨zs, hz⟩ := zNg (cap := cap) (zM8 (cap := cap) (d := y3.1) (ps := y3.2) ⟨m, f3'⟩)
 simp at g0 g1 g2 g4
 refine ⟨⟨n0, n2, n3, .slice p len cap, zs, T⟩, ?_, hz, hT⟩
 obtain ⟨q0, q1, q2, q3, q4, q5, q6, q7⟩ := g4
 rw [g0, g1, g2, q0, q1, q2, q3, q4, q5, q6, q7]
 rfl
theorem zSd {a : Option Addr} {len cap : Nat} {d : DataW H} {ps : List MemPlace} (h : DataW.Trod enc tP w 0 (fun _ => true) true 62 (.slice a len cap) d ps) : ∃ xs, xs.length = len /\ zDl w a xs := by
 obtain ⟨fuel, hf⟩ := h
 rcases Deep.open_slice Tryz.underlying62 hf with ⟨hcs, _⟩ | ⟨x, l, c, m, n, Da, Pl, hcs, _, hl, hm, hmm, _, hx⟩
 ·simp [Value.cells] at hcs
  exact ⟨[], hcs.2.1.symm, Or.inl rfl, fun x hx => absurd hx List.not_mem_nil, fun x hx => absurd hx List.not_mem_nil⟩
 ·simp [Value.cells] at hcs
  obtain ⟨rfl, rfl, rfl⟩ := hcs
  by_cases h0 : len = 0
  ·exact ⟨[], h0.symm, Or.inl rfl, fun x hx => absurd hx List.not_mem_nil, fun x hx => absurd hx List.not_mem_nil⟩
  have hc12 : Tryz.prog.cellsOf 67 = 12 := by kernel_rfl
  have all : ∀ i, ∃ y : Ac, i < len -> (∀ j, j < 12 -> w.cell? ((x.add (i * 12)).add j) = y.cs.toList[j]?) /\ LsAt w y.code y.xs /\ ∀ i, i < 8 -> In64 (y.T i) := by
   intro i
   by_cases hi : i < len
   ·have him : i < m := by rw [hmm]; simp; omega
    obtain ⟨cs, hcc, ht⟩ := hx i him
    rw [hc12] at hcc
    obtain ⟨y, hy, h1, h2⟩ := zV9 ht
    refine ⟨y, fun _ => ⟨fun j hj => ?_, h1, h2⟩⟩
    rw [<- hy]
    exact z7k hcc j hj
   ·exact ⟨ac0, fun h => absurd h hi⟩
  obtain ⟨f, hf'⟩ := Classical.axiomOfChoice all
  obtain ⟨b, off, spot⟩ := x
  have hc0 := (hf' 0 (by omega)).1 0 (by decide)
  have hspot : spot = none := by simpa [Addr.add, Ac.cs] using World.cell?_spot hc0
  subst hspot
  have hb : b < w.heap.size := by
   rcases Nat.lt_or_ge b w.heap.size with g | g
   ·exact g
   ·simp [World.cell?, Addr.add, Array.getElem?_eq_none g, Ac.cs] at hc0
  have hlen : ((List.range len).map f).length = len := by simp
  refine ⟨(List.range len).map f, hlen, Or.inr ⟨b, off, rfl, hb, fun i hi => ?_⟩, fun x hx => ?_, fun x hx => ?_⟩
  ·rw [hlen] at hi
   have e : ((List.range len).map f).getD i ac0 = f i := by rw [List.getD_eq_getElem?_getD, List.getElem?_map, List.getElem?_range hi]; rfl
   rw [e]
   intro j v hv
   have hj : j < 12 := by have := (List.getElem?_eq_some_iff.1 hv).1; simpa [Ac.cs] using this
   have := (hf' i hi).1 j hj
   rw [Go.WideShapes.add_plain, Go.WideShapes.add_plain, hv] at this
   exact this
  ·obtain ⟨i, hi, rfl⟩ := List.mem_map.1 hx
   exact (hf' i (List.mem_range.1 hi)).2.1
  ·obtain ⟨i, hi, rfl⟩ := List.mem_map.1 hx
   exact (hf' i (List.mem_range.1 hi)).2.2
end
end
/-- A table of texts, as a row lists it. -/
def zDr {H : Type} (xs : List (List UInt8)) : DataW H := .agg (xs.map fun b => .lit (.string b))
theorem zF6 {H : Type} {enc : TypeId × Value -> H} {P : Program} {w : World} {base : Nat} {sp : Nat -> Bool} {held : Bool} {fuel : Nat} {t e : TypeId} {n : Nat} {cs : List Value} {xs : List (List UInt8)} {p : List MemPlace}
  (ht : P.underlying t = some (.array n e)) (he : P.underlying e = some .string) (hce : P.cellsOf e = 1) (hct : P.cellsOf t = n)
  (h : DataW.trod enc P w base sp held fuel t cs = some (zDr xs, p)) : ∀ (i : Nat) (b : List UInt8), xs[i]? = some b -> cs[i]? = some (Value.string ⟨b.toArray⟩) := by
 intro i b hib
 cases fuel with
 | zero => simp [DataW.trod] at h
 | succ fuel =>
  simp only [DataW.trod, ht, hce, hct, Nat.mul_one] at h
  split at h
  ·obtain ⟨ys, hm, hx⟩ := Option.map_eq_some_iff.1 h
   have hxs : ys.map (·.1) = xs.map fun b => (DataW.lit (.string b) : DataW H) := by
    have := congrArg Prod.fst hx
    simpa [zDr] using this
   have hyl : ys.length = n := by simpa using Lib.mapM_length hm
   have hxl : xs.length = n := by
    have := congrArg List.length hxs
    simp at this
    omega
   have hi : i < n := by
    have := (List.getElem?_eq_some_iff.1 hib).1
    omega
   obtain ⟨y, hy, hf⟩ := Lib.mapM_at hm i i (by simp [hi])
   obtain ⟨s, hc, rfl, _⟩ := DataW.trod_string he hf
   have h1 : cs[i]? = some (.string s) := by
    have := congrArg (·[0]?) hc
    simpa [List.getElem?_take, List.getElem?_drop] using this
   have h2 : (ys.map (·.1))[i]? = some (DataW.lit (.string s.data.toList) : DataW H) := by simp [hy]
   rw [hxs] at h2
   simp only [List.getElem?_map, hib, Option.map_some, Option.some.injEq, DataW.lit.injEq, Lit.string.injEq] at h2
   rw [h1, h2]
  ·cases h
theorem z7p {P : Program} {w : World} : ∀ {l : List (String × DataW Unit)} {ps : List MemPlace}, DataW.LaidVars P w l ps -> ∀ x ∈ l, ∃ g t cs fuel p, P.globalNamed x.1 = some g /\ (P.globals[g]?).map (·.type) = some t /\ w.var? P x.1 = some cs /\ DataW.trod (fun _ => ()) P w 0 (fun _ => true) false fuel t cs.toList = some (x.2, p)
 | [], _, _, x, hx => by cases hx
 | (n, d) :: r, ps, h, x, hx => by
  obtain ⟨g, t, cs, fuel, p, q, h1, h2, h3, h4, h5, _⟩ := h
  rcases List.mem_cons.1 hx with rfl | hx
  ·exact ⟨g, t, cs, fuel, p, h1, h2, h3, h4⟩
  ·exact z7p h5 x hx
theorem z9z {P : Program} {w : World} {l : List (String × DataW Unit)} (h : laidMet P l w) {name : String} {xs : List (List UInt8)} {g n : Nat} {t e : TypeId} (hx : (name, zDr xs) ∈ l)
  (hg : P.globalNamed name = some g) (hty : (P.globals[g]?).map (·.type) = some t) (ht : P.underlying t = some (.array n e)) (he : P.underlying e = some .string) (hce : P.cellsOf e = 1) (hct : P.cellsOf t = n) :
  ∀ (i : Nat) (b : List UInt8), xs[i]? = some b -> w.cell? ⟨g, i, none⟩ = some (.string ⟨b.toArray⟩) := by
 obtain ⟨ps, hl, _⟩ := h
 obtain ⟨g', t', cs, fuel, p, h1, h2, h3, h4⟩ := z7p hl _ hx
 obtain rfl := Option.some.inj (hg.symm.trans h1)
 obtain rfl := Option.some.inj (hty.symm.trans h2)
 intro i b hib
 have h5 := zF6 ht he hce hct h4 i b hib
 have h6 := World.var?_cell hg h3 i
 rw [h6, <- h5, Array.getElem?_toList]
theorem zW7 {w : World} {l : List (String × DataW Unit)} (h : laidMet tP l w) (hx : ("internal/strconv.uint64pow10", Rows.laid_internal_strconv_uint64pow10) ∈ l) : Lib.TabIs tP w "internal/strconv.uint64pow10" .u64 Lib.pow10Tab := by
 obtain ⟨ps, hl, _⟩ := h
 obtain ⟨g', t', cs, fuel, p, h1, h2, h3, h4⟩ := z7p hl _ hx
 obtain rfl := Option.some.inj (zVe.symm.trans h1)
 obtain rfl := Option.some.inj ((show (Tryz.prog.globals[9]?).map (·.type) = some 371 by kernel_rfl).symm.trans h2)
 have h5 : cs.toList = Lib.pow10Tab.map fun z => Value.int .u64 z := Lib.cells_of_tab (n := 20) (e := 264) Tryz.underlying371 Tryz.underlying264 (by kernel_rfl) (by kernel_rfl) (show DataW.trod (fun _ => ()) tP w 0 (fun _ => true) false fuel 371 cs.toList = some (Lib.tabData .u64 Lib.pow10Tab, p) from h4)
 unfold Lib.TabIs
 rw [h3, <- h5]
/-- The project's tables, where they are listed. -/
theorem zFi {ex : Ext} {w : World} {l : List (String × DataW Unit)} (h : laidMet tP l w) (h0 : ("internal/strconv.uint64pow10", Rows.laid_internal_strconv_uint64pow10) ∈ l)
  (h1 : ("gatehouse/asm.names", Rows.laid_gatehouse_asm_names) ∈ l) (h2 : ("gatehouse/asm.calls", Rows.laid_gatehouse_asm_calls) ∈ l) (hroom : 12 <= w.heap.size) (hx : ex.holds w) : Tabs ex w := by
 have e1 := z9z h (xs := zCv) (g := 1) (n := 29) (t := 234) (e := 9) h1 (by kernel_rfl) (by kernel_rfl) Tryz.underlying234 Tryz.underlying9 (by kernel_rfl) (by kernel_rfl)
 have e2 := z9z h (xs := zDg) (g := 3) (n := 4) (t := 273) (e := 9) h2 (by kernel_rfl) (by kernel_rfl) Tryz.underlying273 Tryz.underlying9 (by kernel_rfl) (by kernel_rfl)
 refine ⟨hroom, fun i hi => ?_, fun i hi => ?_, zW7 h h0, hx⟩
 ·exact e1 i _ (by rw [List.getD_eq_getElem?_getD, List.getElem?_eq_getElem (show i < zCv.length from hi)]; rfl)
 ·exact e2 i _ (by rw [List.getD_eq_getElem?_getD, List.getElem?_eq_getElem (show i < zDg.length from hi)]; rfl)
theorem rt : (Tryz.prog.cutTypes.find? (·.1 == "internal/reflectlite.rtype")).map (·.2) = some 286 := by kernel_rfl
theorem oneRow : ((List.range 405).filter fun t => Tryz.prog.rowNamed t [101, 114, 114, 111, 114]) = [26] := by kernel_rfl
theorem ntypes : Tryz.prog.types.size = 405 := by kernel_rfl
theorem et : Tryz.prog.globalNamed "errors.errorType" = some 2 := by kernel_rfl
theorem handle_met {W : World} (h : handlesMet tP [("errors.errorType", Rows.laid_errors_errorType)] W) : zLf W := by
 obtain ⟨name, u, ty, e1, e2, e3, e4, e5⟩ := h _ (List.mem_singleton.2 rfl)
 have en : name = [101, 114, 114, 111, 114] := (Option.some.inj e1).symm
 subst en
 obtain rfl := Option.some.inj (rt.symm.trans e2)
 have hm : ty ∈ (List.range 405).filter fun t => Tryz.prog.rowNamed t [101, 114, 114, 111, 114] := List.mem_filter.2 ⟨List.mem_range.2 (by rw [<- ntypes]; exact e3), e4⟩
 rw [oneRow] at hm
 obtain rfl := List.mem_singleton.1 hm
 have hh : typeHandle tP 26 = pT (some ⟨12, 26, none⟩) := by kernel_rfl
 rw [hh] at e5
 unfold zLf
 simpa using World.var?_cell et e5 0
end Go.Proofs.YtbimlalhodibjaaGreatDoor
