/-
 gatehousekeep.HookApart is true. Conditions: the fact hooked holds; the acts lie in memory. From the reading of a list of steps to its cells: each step's six fields lie one behind the other, and its numbers are of 64 bits. Conditions: none. From the reading of a list of acts, and of three numbers, to their cells. Conditions: none. No program of a list of acts is longer than a list can be. Conditions: none. From the listed package variables to the tables that the walks read: the codes' names and what is called, of the project and of the document, and the library's powers of ten. Conditions: the listed variables read as the program's text lays them.
-/
import Derived.Test.YtbimlalhodibjaaGreatDoorJf25
import Derived.Deep.DeepCutAuto
import Derived.Deep.CutBlock
import Derived.Deep.QuietTactic
import Derived.BigQuiet
import Derived.Test.YtbimlalhodibjaaGreatDoorJf1
import Derived.Test.YtbimlalhodibjaaGreatDoorJf3
import Derived.Deep.Slices
import Derived.ChangeSame
import Derived.ChangeVars
import Derived.ChangeOld
import Derived.Test.YtbimlalhodibjaaGreatDoorJf23
import Derived.Test.YtbimlalhodibjaaGreatDoorJf21
import Derived.Lib.LaidTab
import Derived.LaidHandle
import Derived.LaidLaws
set_option maxHeartbeats 40000000
open Go.Value renaming int → B
open Go.IntKind renaming i64 → E
open Go.RowKit.Below renaming alloc → bA, setCell → bS, drew → bD, refl → bF
set_option maxRecDepth 1000000
set_option linter.defProp false
set_option linter.unusedVariables false
set_option linter.unusedSimpArgs false
open Go.Ending renaming returned → rT
open Go.Value renaming pointer → pT
open Go.Obj renaming cells → cT
open Go.Proofs.Tryz renaming prog → tP
namespace Go.Proofs.YtbimlalhodibjaaGreatDoor
open Go.ChangeShapes Go.WideShapes Go.ChangeAt Go.RowKit
section
attribute [local simp] z00 z0d z07
structure ApS (w : World) (Ba Bb c : Nat) (i : Nat) (wr : World) : Prop where
 ex : ∃ da db, Ap2 w Ba Bb da db (60 * (i : Int)) wr /\ ApM c da db
theorem zYp (a : Option Addr) (cap : Nat) (xs : List Ac) (wh : Int) (w : World) (h60 : xs.length <= 60) (HA : Hid (zDl w a xs)) (HWI : Hid (∀ x, x ∈ xs -> x.xs.length <= 9223372036854775807)) (HHK : Hid (∀ W : World, Below w.heap.size w W -> Calls tP 15 #[] W fun e w' => e = rT (.bool true) /\ Below W.heap.size W w')) :
    Calls tP 5 #[.slice a xs.length cap, B E wh] w fun e w' => e = rT (.bool true) /\ Below w.heap.size w w' := by
  have z60 : decide (60 < (xs.length : Int)) = false := decide_eq_false (by omega)
  go_enter Tryz.func5, Tryz.ntmps5
  go_upto_region 5 with (first | (go_at_call 15; go_must (refine (HHK.out _ (bF _ _)).mono ?_; rintro e w1 ⟨rfl, hb1⟩)) | fail)
  clear HHK
  go_upto_region 5 with fail
  go_step
  (refine z03 rfl (.agg #[B E 30, B E 30, B E 30]) w1 (by go_simp; try rfl) ?_); simp only [Act.put, siA, scZ, scS]
  refine z0p rfl 6 #[.agg #[B E 30, B E 30, B E 30]] (by go_simp; try rfl) (R := fun v w' => v = .tuple #[pT (some ⟨w1.heap.size + 1, 0, none⟩), .nilIface] /\ Below w1.heap.size w1 w' /\ z0k w' (w1.heap.size + 1) (z44 (fun _ => 30) 3)) ((zQm (fun _ => 30) (fun _ _ => by decide) (fun _ _ => by decide) w1).mono fun e w' ⟨h1, h2⟩ => ⟨_, h1, rfl, h2⟩) ?_
  rintro v w2 ⟨rfl, hbw2, hDw2⟩
  simp only [Act.put, siA, scZ, scS]
  generalize hBa : w1.heap.size + 1 = Ba at hDw2 ⊢
  go_upto_region 6 with fail
  go_step
  (refine z03 rfl (.agg #[B E 30, B E 30, B E 30]) w2 (by go_simp; try rfl) ?_); simp only [Act.put, siA, scZ, scS]
  refine z0p rfl 6 #[.agg #[B E 30, B E 30, B E 30]] (by go_simp; try rfl) (R := fun v w' => v = .tuple #[pT (some ⟨w2.heap.size + 1, 0, none⟩), .nilIface] /\ Below w2.heap.size w2 w' /\ z0k w' (w2.heap.size + 1) (z44 (fun _ => 30) 3)) ((zQm (fun _ => 30) (fun _ _ => by decide) (fun _ _ => by decide) w2).mono fun e w' ⟨h1, h2⟩ => ⟨_, h1, rfl, h2⟩) ?_
  rintro v w3 ⟨rfl, hbw3, hDw3⟩
  simp only [Act.put, siA, scZ, scS]
  generalize hBb : w2.heap.size + 1 = Bb at hDw3 ⊢
  have hDa3 := FnAt.later hDw2 hbw3
  have hz := hDw2.lt
  have hs1 := hb1.size
  have hA3 : Ap2 w Ba Bb (z44 (fun _ => 30) 3) (z44 (fun _ => 30) 3) 0 w3 := ⟨(hb1.trans (hbw2.mono hb1.size)).trans (hbw3.mono (Nat.le_trans hb1.size hbw2.size)), zZ5 hDa3 (fun _ _ => ⟨by decide, by decide⟩), zZ5 hDw3 (fun _ _ => ⟨by decide, by decide⟩), by omega, by omega⟩
  have hc := zE9 wh (n := 3) (by decide)
  have hp : Hid (∀ W : World, Calls tP 16 #[B E wh, B E 3] W fun e w' => e = rT (B E (pickF wh 3 : Int)) /\ w' = W) := zPj wh 3 (by decide) (by decide)
  generalize pickF wh 3 = c at hp hc
  have HS : Hid (ApS w Ba Bb c 0 w3) := ⟨_, _, hA3, ApM.new hc _⟩
  clear hA3 hDa3 hDw2 hDw3 hbw2 hbw3 hb1 hz hs1 hBa hBb
  go_upto_region 11 with (first | (go_at_call 16; go_must (refine (hp.out _).mono ?_; rintro e w3 ⟨rfl, rfl⟩)) | fail)
  clear hp
  go_loopw [9] (fun iv wr => ∃ i : Nat, iv = B E i /\ i <= xs.length /\ Hid (ApS w Ba Bb c i wr)) (fun iv _ => xs.length - (intOf iv).toNat)
  case atStart => exact ⟨0, rfl, Nat.zero_le _, HS.out⟩
  case round => as_aux_lemma =>
    clear HS
    obtain ⟨i, rfl, hil, H⟩ := hrel
    have hi0 : (0 : Int) <= (i : Int) := by omega
    by_cases hi : i < xs.length
    · have hi' : (i : Int) < (xs.length : Int) := by omega
      obtain ⟨x, HX⟩ : ∃ x, Hid (xs.getD i ac0 = x) := ⟨_, rfl⟩
      have hxm : x ∈ xs := by rw [<- HX.out]; exact zUd ac0 hi
      obtain ⟨da, db, hF, hM⟩ := H.out.ex
      obtain ⟨bk, off, rfl, hbk, hrow⟩ : ∃ bk off, a = some ⟨bk, off, none⟩ /\ bk < w.heap.size /\ ∀ i, i < xs.length -> wr.rangeAt bk (off + i * 12) (xs.getD i ac0).cs.toList := by
        rcases HA.out.lies with h | ⟨bk, off, e, h1, h2⟩
        · omega
        · exact ⟨bk, off, e, h1, fun i hi => zAg (h2 i hi) (hF.bel.block bk h1)⟩
      have hrow := hrow i hi
      rw [HX.out] at hrow
      go_upto_region 13 with fail
      go_step
      (refine z03 rfl (.slice (some ⟨bk, off, none⟩) xs.length cap) wr (by go_simp; try rfl) ?_); simp only [Act.put, siA, scZ, scS]
      (refine z03 rfl (B E (i : Int)) wr (by go_simp; try rfl) ?_); simp only [Act.put, siA, scZ, scS]
      (refine z03 rfl (pT (some ⟨bk, off + i * 12, none⟩)) wr (by go_simp; try rfl) ?_); simp only [Act.put, siA, scZ, scS]
      refine wpList_load_mid rfl 67 (.tmp 64) rfl bk (off + i * 12) rfl x.cs.toList _ hrow Tryz.underlying67 rfl (by kernel_rfl) ?_
      rw [Array.toArray_toList]
      simp only [Act.put, siA, scZ, scS]
      (refine z03 rfl (pT (some ⟨wr.heap.size, 0, none⟩)) (wr.alloc (cT ac0.cs 67)) (by go_simp; try rfl) ?_); simp only [Act.put, siA, scZ, scS]
      refine wpList_store_row rfl 67 (.tmp 10) (.tmp 65) rfl wr.heap.size x.cs rfl rfl 67 ac0.cs (heap_alloc_new wr _) (by kernel_rfl) rfl (ac_one (HA.out.code x hxm)) ?_
      simp only [Act.put, siA, scZ, scS]
      obtain ⟨hb4, hx4⟩ := zPv wr ac0.cs x.cs 67
      have HF4 : Hid (Ap2 w Ba Bb da db (60 * (i : Int)) _) := hF.later hb4
      have HM4 : Hid (ApM c da db) := hM
      have hgB : Bb < wr.heap.size := hF.b.at_.lt
      have hab := hF.o2
      clear hF hM H hrow hb4
      generalize (wr.alloc (cT ac0.cs 67)).setRow wr.heap.size x.cs = w4 at hx4 HF4 ⊢
      generalize wr.heap.size = g at hx4 hgB ⊢
      have hL := HA.out.code x hxm
      obtain ⟨ca0, cap0, hcode, hlies⟩ := hL.lies
      have hwi := HWI.out x hxm
      have hp : Hid (∀ W : World, Calls tP 16 #[B E x.hook, B E 3] W fun e w' => e = rT (B E (pickF x.hook 3 : Int)) /\ w' = W) := zPj x.hook 3 (by decide) (by decide)
      have hk := zE9 x.hook (n := 3) (by decide)
      generalize pickF x.hook 3 = k at hp hk
      have q0 : w4.cell? ⟨g, 0, none⟩ = some (B E x.what) := (cell_of_row w4 g 0 _ _ _ hx4).trans rfl
      have q1 : w4.cell? ⟨g, 1, none⟩ = some (B E x.hook) := (cell_of_row w4 g 1 _ _ _ hx4).trans rfl
      have q2 : w4.cell? ⟨g, 2, none⟩ = some (B E x.rank) := (cell_of_row w4 g 2 _ _ _ hx4).trans rfl
      have q3 : w4.cell? ⟨g, 3, none⟩ = some (.slice ca0 x.xs.length cap0) := by rw [<- hcode]; exact (cell_of_row w4 g 3 _ _ _ hx4).trans rfl
      go_upto_region 17 with (first | (go_at_call 16; go_must (refine (hp.out _).mono ?_; rintro e w4 ⟨rfl, rfl⟩)) | fail)
      have ha0 : Value.bool (decide ((60 : Int) < (x.xs.length : Int))) = .bool (zY5 x.xs 0) := congrArg Value.bool (by unfold zY5; rw [List.take_zero, List.any_nil, Bool.or_false]; exact decide_eq_decide.2 (by omega))
      go_loopw [12, 13] (fun av jv wq => ∃ j : Nat, jv = B E j /\ av = .bool (zY5 x.xs j) /\ j <= x.xs.length /\ wq = w4) (fun _ jv _ => x.xs.length - (intOf jv).toNat)
      case atStart => exact ⟨0, rfl, ha0, Nat.zero_le _, rfl⟩
      case round => as_aux_lemma =>
        clear ha0
        obtain ⟨j, rfl, rfl, hjl, hw⟩ := hrel
        replace hw := hw.symm
        subst hw
        have hj0 : (0 : Int) <= (j : Int) := by omega
        by_cases hj : j < x.xs.length
        · have hj' : (j : Int) < (x.xs.length : Int) := by omega
          have ej : IntKind.i64.wrap ((j : Int) + 1) = (j : Int) + 1 := by rw [IntWalk.i64_left, z0f (by omega) (by omega)]
          obtain ⟨b2, o2, rfl, hb2, hst⟩ : ∃ b2 o2, ca0 = some ⟨b2, o2, none⟩ /\ b2 < w.heap.size /\ z1l w b2 o2 x.xs.length (fun j => (nth x.xs j).c) (fun j => (nth x.xs j).d) (fun j => (nth x.xs j).s) (fun j => (nth x.xs j).r) (fun j => (nth x.xs j).o) (fun j => (nth x.xs j).n) := by
            rcases hlies with h | h
            · omega
            · exact h
          obtain ⟨g0, -, -, -, -, g5⟩ := hst j hj
          have c0 := (HF4.out.bel.cell (p := ⟨b2, o2 + j * 6, none⟩) hb2).trans g0
          have c5 := (HF4.out.bel.cell (p := ⟨b2, o2 + j * 6 + 5, none⟩) hb2).trans g5
          dsimp only at c0 c5
          have hnx := zYo hj
          clear g0 g5 hst
          cases hq : zY5 x.xs j with
          | true =>
            rw [hq, Bool.true_or] at hnx
            have HN : Hid (zY5 x.xs (j + 1) = true) := hnx
            clear hnx hq
            go_wp2_with fail
            exact ⟨⟨j + 1, z5i j, congrArg Value.bool HN.out.symm, by omega, trivial⟩, by show x.xs.length - ((j : Int) + 1).toNat < x.xs.length - (j : Int).toNat; omega⟩
          | false =>
            rw [hq, Bool.false_or] at hnx
            cases h27 : ((nth x.xs j).c == 27) with
            | true =>
              rw [h27, Bool.true_and] at hnx
              cases h2 : ((nth x.xs j).n == 2) with
              | true =>
                rw [h2] at hnx
                have HN : Hid (zY5 x.xs (j + 1) = true) := hnx
                clear hnx hq
                go_wp2_with fail
                exact ⟨⟨j + 1, z5i j, congrArg Value.bool HN.out.symm, by omega, trivial⟩, by show x.xs.length - ((j : Int) + 1).toNat < x.xs.length - (j : Int).toNat; omega⟩
              | false =>
                rw [h2] at hnx
                have HN : Hid (zY5 x.xs (j + 1) = false) := hnx
                clear hnx hq
                go_wp2_with fail
                exact ⟨⟨j + 1, z5i j, congrArg Value.bool HN.out.symm, by omega, trivial⟩, by show x.xs.length - ((j : Int) + 1).toNat < x.xs.length - (j : Int).toNat; omega⟩
            | false =>
              rw [h27, Bool.false_and] at hnx
              have HN : Hid (zY5 x.xs (j + 1) = false) := hnx
              clear hnx hq
              go_wp2_with fail
              exact ⟨⟨j + 1, z5i j, congrArg Value.bool HN.out.symm, by omega, trivial⟩, by show x.xs.length - ((j : Int) + 1).toNat < x.xs.length - (j : Int).toNat; omega⟩
        · have hj' : ¬ ((j : Int) < (x.xs.length : Int)) := by omega
          have hje : j = x.xs.length := by omega
          obtain ⟨ask, HAS⟩ : ∃ b, Hid (zY5 x.xs j = b) := ⟨_, rfl⟩
          rw [HAS.out]
          have HASK : Hid (ask = false -> x.xs.length <= 60 /\ Deaf x.xs) := fun e => zYv (by rw [<- hje, HAS.out]; exact e)
          clear HAS
          subst hje
          go_upto_region 20 with fail
          go_upto_block 4 with fail
          go_cut [] (fun wx => Hid (ApS w Ba Bb c (i + 1) wx))
          case first => as_aux_lemma =>
            by_cases c0 : x.what = 0
            · have b0 : (x.what == 0) = true := by rw [c0]; rfl
              clear c0
              have HT : Hid (∀ i, i < 8 -> In64 (x.T i)) := HA.out.told x hxm
              have ht : w4.rangeAt g 4 (z0o x.T).toList := zY0 hx4
              go_upto_region 22 with fail
              go_step
              (refine z03 rfl (pT (some ⟨Ba, 0, none⟩)) w4 (by go_simp; try rfl) ?_); simp only [Act.put, siA, scZ, scS]
              (refine z03 rfl (B E (k : Int)) w4 (by go_simp; try rfl) ?_); simp only [Act.put, siA, scZ, scS]
              (refine z03 rfl (pT (some ⟨g, 4, none⟩)) w4 (by go_simp; try rfl) ?_); simp only [Act.put, siA, scZ, scS]
              refine wpList_load_mid rfl 34 (.tmp 105) rfl g 4 rfl (z0o x.T).toList _ ht Tryz.underlying34 rfl (by kernel_rfl) ?_
              rw [Array.toArray_toList]
              simp only [Act.put, siA, scZ, scS]
              refine z0p rfl 17 #[pT (some ⟨Ba, 0, none⟩), B E (k : Int), .agg (z0o x.T)] (by go_simp; try rfl) (R := fun v w' => Kept Ba w4 w' /\ DOk w' Ba (evTo da k x.T) (60 * (i : Int))) ((zYd Ba k hk da _ x.T w4 HF4.out.a HT).mono fun e w' ⟨v, h1, h2⟩ => ⟨v, h1, h2⟩) ?_
              rintro v w5 ⟨hk5, hd5⟩
              simp only [Act.put, siA, scZ, scS]
              have HF5 : Hid (Ap2 w Ba Bb (evTo da k x.T) db (60 * (i : Int)) w5) := HF4.out.setA hk5 hd5
              have hgl : g < w4.heap.size := (Array.getElem?_eq_some_iff.1 hx4).1
              have hx5 := (hk5.block g hgl (fun e => by have := Option.some.inj e; omega)).trans hx4
              have ht5 : w5.rangeAt g 4 (z0o x.T).toList := zY0 hx5
              clear hk5 hd5 HF4 hx4 ht q0 q1 q2 q3
              by_cases hkc : k = c
              · have bkc : ((k : Int) == (c : Int)) = true := by rw [hkc]; simp
                have HM5 : Hid (ApM c (evTo da k x.T) (evTo db k x.T)) := by rw [hkc]; exact HM4.out.toB x.T
                clear hkc HM4
                go_upto_region 24 with fail
                go_step
                (refine z03 rfl (pT (some ⟨Bb, 0, none⟩)) w5 (by go_simp; try rfl) ?_); simp only [Act.put, siA, scZ, scS]
                (refine z03 rfl (B E (k : Int)) w5 (by go_simp; try rfl) ?_); simp only [Act.put, siA, scZ, scS]
                (refine z03 rfl (pT (some ⟨g, 4, none⟩)) w5 (by go_simp; try rfl) ?_); simp only [Act.put, siA, scZ, scS]
                refine wpList_load_mid rfl 34 (.tmp 113) rfl g 4 rfl (z0o x.T).toList _ ht5 Tryz.underlying34 rfl (by kernel_rfl) ?_
                rw [Array.toArray_toList]
                simp only [Act.put, siA, scZ, scS]
                refine z0p rfl 17 #[pT (some ⟨Bb, 0, none⟩), B E (k : Int), .agg (z0o x.T)] (by go_simp; try rfl) (R := fun v w' => Kept Bb w5 w' /\ DOk w' Bb (evTo db k x.T) (60 * (i : Int))) ((zYd Bb k hk db _ x.T w5 HF5.out.b HT).mono fun e w' ⟨v, h1, h2⟩ => ⟨v, h1, h2⟩) ?_
                rintro v2 w6 ⟨hk6, hd6⟩
                simp only [Act.put, siA, scZ, scS]
                have HF6 : Hid (ApS w Ba Bb c (i + 1) w6) := ⟨_, _, (HF5.out.setB hk6 hd6).mono (by omega), HM5.out⟩
                clear hk6 hd6 HF5 HM5
                go_wp2_with fail
                go_meet
                exact HF6
              · have bkc : ((k : Int) == (c : Int)) = false := by simp; omega
                have HF6 : Hid (ApS w Ba Bb c (i + 1) w5) := ⟨_, _, HF5.out.mono (by omega), HM4.out.toA hkc x.T⟩
                clear HF5 HM4 hkc
                go_wp2_with fail
                go_meet
                exact HF6
            · have b0 : (x.what == 0) = false := by simpa using c0
              clear c0
              by_cases c2 : x.what = 2
              · have b2 : (x.what == 2) = true := by rw [c2]; rfl
                clear c2
                cases ask with
                | true =>
                  have ei : IntKind.i64.wrap ((i : Int) + 1) = (i : Int) + 1 := by rw [IntWalk.i64_left, z0f (by omega) (by omega)]
                  have HF6 : Hid (ApS w Ba Bb c (i + 1) w4) := ⟨_, _, HF4.out.mono (by omega), HM4.out⟩
                  clear HF4 HM4
                  go_wp2_with fail
                  exact ⟨⟨i + 1, z5i i, by omega, HF6⟩, by show xs.length - ((i : Int) + 1).toNat < xs.length - (i : Int).toNat; omega⟩
                | false =>
                  obtain ⟨h6, hdf⟩ := HASK.out rfl
                  have HDF : Hid (Deaf x.xs) := hdf
                  clear hdf
                  have HCA : Hid (∀ W : World, Calls tP 10 #[pT (some ⟨Ba, 0, none⟩), B E (k : Int)] W fun e w' => e = rT (.tuple #[pT (some ⟨Ba, k * 317, none⟩), .nilIface]) /\ w' = W) := fun W => zGo Ba k hk W
                  have HCB : Hid (∀ W : World, Calls tP 10 #[pT (some ⟨Bb, 0, none⟩), B E (k : Int)] W fun e w' => e = rT (.tuple #[pT (some ⟨Bb, k * 317, none⟩), .nilIface]) /\ w' = W) := fun W => zGo Bb k hk W
                  have hATT := zJa Ba k hk da _ x.code x.xs x.rank w4 HF4.out.a (by omega) (by omega) (hL.later HF4.out.bel) (fun h1 a n c e => by have := hL.low h1 a n c e; have := HF4.out.o1; omega)
                  rw [hcode] at hATT
                  go_upto_region 28 with (first | (go_at_call 10; go_must (refine (HCA.out _).mono ?_; rintro e w4 ⟨rfl, rfl⟩)) | fail)
                  go_upto_region 31 with (first | (go_at_call 10; go_must (refine (HCB.out _).mono ?_; rintro e w4 ⟨rfl, rfl⟩)) | fail)
                  go_step
                  (refine z03 rfl (pT (some ⟨Ba, k * 317, none⟩)) w4 (by go_simp; try rfl) ?_); simp only [Act.put, siA, scZ, scS]
                  (refine z03 rfl (pT (some ⟨g, 3, none⟩)) w4 (by go_simp; try rfl) ?_); simp only [Act.put, siA, scZ, scS]
                  (refine z03 rfl (.slice ca0 x.xs.length cap0) w4 (by go_simp; try rfl) ?_); simp only [Act.put, siA, scZ, scS]
                  (refine z03 rfl (pT (some ⟨g, 2, none⟩)) w4 (by go_simp; try rfl) ?_); simp only [Act.put, siA, scZ, scS]
                  (refine z03 rfl (B E x.rank) w4 (by go_simp; try rfl) ?_); simp only [Act.put, siA, scZ, scS]
                  refine z0p rfl 18 #[pT (some ⟨Ba, k * 317, none⟩), .slice ca0 x.xs.length cap0, B E x.rank] (by go_simp; try rfl) (R := fun v w' => (∃ y z, v = .tuple #[y, z]) /\ Kept Ba w4 w' /\ ∃ d', DOk w' Ba d' (60 * (i : Int) + 1) /\ zVa da k x.xs x.rank d') (hATT.mono fun e w' ⟨v, h1, h2⟩ => ⟨v, h1, h2⟩) ?_
                  rintro v w5 ⟨⟨y, z, rfl⟩, hk5, da', hd5, ha5⟩
                  simp only [Act.put, siA, scZ, scS]
                  have HF5 : Hid (Ap2 w Ba Bb da' db (60 * (i : Int) + 1) w5) := (HF4.out.mono (by omega)).setA hk5 hd5
                  have hgl : g < w4.heap.size := (Array.getElem?_eq_some_iff.1 hx4).1
                  have hx5 := (hk5.block g hgl (fun e => by have := Option.some.inj e; omega)).trans hx4
                  clear hk5 hd5 HF4 hx4 q0 q1 q2 q3 hATT HCA HCB
                  have q2 : w5.cell? ⟨g, 2, none⟩ = some (B E x.rank) := (cell_of_row w5 g 2 _ _ _ hx5).trans rfl
                  have q3 : w5.cell? ⟨g, 3, none⟩ = some (.slice ca0 x.xs.length cap0) := by rw [<- hcode]; exact (cell_of_row w5 g 3 _ _ _ hx5).trans rfl
                  by_cases hkc : k = c
                  · have bkc : ((k : Int) == (c : Int)) = true := by rw [hkc]; simp
                    have hATT := zJa Bb k hk db _ x.code x.xs x.rank w5 HF5.out.b (by omega) (by omega) (hL.later HF5.out.bel) (fun h1 a n c e => by have := hL.low h1 a n c e; have := HF5.out.o1; have := HF5.out.o2; omega)
                    rw [hcode] at hATT
                    have HKC : Hid (k = c) := hkc
                    clear hkc
                    go_upto_region 33 with fail
                    go_step
                    (refine z03 rfl (pT (some ⟨Bb, k * 317, none⟩)) w5 (by go_simp; try rfl) ?_); simp only [Act.put, siA, scZ, scS]
                    (refine z03 rfl (pT (some ⟨g, 3, none⟩)) w5 (by go_simp; try rfl) ?_); simp only [Act.put, siA, scZ, scS]
                    (refine z03 rfl (.slice ca0 x.xs.length cap0) w5 (by go_simp; try rfl) ?_); simp only [Act.put, siA, scZ, scS]
                    (refine z03 rfl (pT (some ⟨g, 2, none⟩)) w5 (by go_simp; try rfl) ?_); simp only [Act.put, siA, scZ, scS]
                    (refine z03 rfl (B E x.rank) w5 (by go_simp; try rfl) ?_); simp only [Act.put, siA, scZ, scS]
                    refine z0p rfl 18 #[pT (some ⟨Bb, k * 317, none⟩), .slice ca0 x.xs.length cap0, B E x.rank] (by go_simp; try rfl) (R := fun v w' => (∃ y z, v = .tuple #[y, z]) /\ Kept Bb w5 w' /\ ∃ d', DOk w' Bb d' (60 * (i : Int) + 1 + 1) /\ zVa db k x.xs x.rank d') (hATT.mono fun e w' ⟨v, h1, h2⟩ => ⟨v, h1, h2⟩) ?_
                    rintro v2 w6 ⟨⟨y2, z2, rfl⟩, hk6, db', hd6, hb6⟩
                    simp only [Act.put, siA, scZ, scS]
                    have HF6 : Hid (ApS w Ba Bb c (i + 1) w6) := by
                      have e := HKC.out
                      subst e
                      exact ⟨_, _, ((HF5.out.mono (by omega)).setB hk6 hd6).mono (by omega), HM4.out.attB HDF.out ha5 hb6⟩
                    clear hk6 hd6 HF5 HM4 hATT ha5 hb6
                    go_wp2_with fail
                    go_meet
                    exact HF6
                  · have bkc : ((k : Int) == (c : Int)) = false := by simp; omega
                    have HF6 : Hid (ApS w Ba Bb c (i + 1) w5) := ⟨_, _, HF5.out.mono (by omega), HM4.out.attA hkc ha5⟩
                    clear HF5 HM4 hkc
                    go_wp2_with fail
                    go_meet
                    exact HF6
              · have b2 : (x.what == 2) = false := by simpa using c2
                clear c2
                by_cases c1 : x.what = 1
                · have b1 : (x.what == 1) = true := by rw [c1]; rfl
                  clear c1
                  have hRA := zGn Ba da (60 * (i : Int)) (by omega) (by omega) w4 HF4.out.a HM4.out.la
                  have hRB : ∀ W : World, DOk W Bb db (60 * (i : Int)) -> Calls tP 19 #[pT (some ⟨Bb, 0, none⟩)] W fun e w' => ∃ vd ds, e = rT vd /\ Kept Bb W w' /\ DOk w' Bb (z0g 3 db).1 (60 * (i : Int) + 60) /\ DnAt w' W.heap.size vd ds /\ (ds.map fun x => (x.k, x.s)) = (z0g 3 db).2 /\ ds.length <= 60 := fun W hW => zGn Bb db (60 * (i : Int)) (by omega) (by omega) W hW HM4.out.lb
                  have hmr := HM4.out.round hc HF4.out.a.evs HF4.out.b.evs
                  have hDB : ∀ W : World, Ap2 w Ba Bb (z0g 3 da).1 db (60 * (i : Int) + 60) W -> DOk W Bb db (60 * (i : Int)) := fun W h => ⟨h.b.at_, h.b.ps, h.b.few, h.b.evs, h.b.told, h.b.may0, h.b.may1, h.b.left0, h.b.left1, h.b.last0, HF4.out.b.last1, h.b.ran0, HF4.out.b.ran1⟩
                  generalize z0g 3 da = RA at hRA hmr hDB
                  generalize z0g 3 db = RB at hRB hmr
                  obtain ⟨hm1, hm2, hm3⟩ := hmr
                  have HMR : Hid (ApM c RA.1 RB.1) := hm1
                  have HRB : Hid (∀ W : World, Ap2 w Ba Bb RA.1 db (60 * (i : Int) + 60) W -> Calls tP 19 #[pT (some ⟨Bb, 0, none⟩)] W fun e w' => ∃ vd ds, e = rT vd /\ Kept Bb W w' /\ DOk w' Bb RB.1 (60 * (i : Int) + 60) /\ DnAt w' W.heap.size vd ds /\ dnL ds = RB.2 /\ ds.length <= 60) := fun W h => hRB W (hDB W h)
                  clear hRB hDB hm1
                  go_upto_region 36 with fail
                  go_step
                  (refine z03 rfl (pT (some ⟨Ba, 0, none⟩)) w4 (by go_simp; try rfl) ?_); simp only [Act.put, siA, scZ, scS]
                  refine z0p rfl 19 #[pT (some ⟨Ba, 0, none⟩)] (by go_simp; try rfl) (R := fun vd w' => ∃ ds, Kept Ba w4 w' /\ DOk w' Ba RA.1 (60 * (i : Int) + 60) /\ DnAt w' w4.heap.size vd ds /\ dnL ds = RA.2 /\ ds.length <= 60) (hRA.mono fun e w' ⟨vd, ds, h1, h2⟩ => ⟨vd, h1, ds, h2⟩) ?_
                  rintro vd w5 ⟨dsA, hk5, hO5, hd5, hm5, hl5⟩
                  simp only [Act.put, siA, scZ, scS]
                  have hA5 : Ap2 w Ba Bb RA.1 db (60 * (i : Int) + 60) w5 := (HF4.out.mono (by omega)).setA hk5 hO5
                  have HVA : Hid (∀ x, x ∈ dsA -> ∃ a cp, x.v = .slice a x.s.out.length cp) := fun x hx => z4c (hd5.2 x hx)
                  have HLA : Hid (zC8 w5.heap.size RA.1) := hA5.a.low
                  have HLB : Hid (zC8 w5.heap.size db) := hA5.b.low
                  have hBb1 : Bb < w5.heap.size := hA5.b.at_.lt
                  obtain ⟨va, vc, rfl⟩ := z4c hd5.1
                  have HL0 : Hid (LSt w Ba Bb RA.1 db (60 * (i : Int) + 60) c w4.heap.size w5.heap.size (.slice va dsA.length vc) dsA 0 (.slice none 0 0) w5) := ⟨hA5, hd5.1, World.ownsRow_nil _ _ _ _, Nat.le_refl _⟩
                  clear hRA hk5 hO5 hd5 hA5 HF4
                  have hsz5 : True := trivial
                  generalize w4.heap.size = b0 at HL0
                  generalize hb1e : w5.heap.size = b1 at HL0 HLA HLB hBb1
                  go_upto_region 37 with fail
                  go_loopw [18, 157] (fun uv qv wr => ∃ q : Nat, qv = B E q /\ q <= dsA.length /\ Hid (LSt w Ba Bb RA.1 db (60 * (i : Int) + 60) c b0 b1 (.slice va dsA.length vc) dsA q uv wr)) (fun _ qv _ => dsA.length - (intOf qv).toNat)
                  case atStart => exact ⟨0, rfl, Nat.zero_le _, HL0.out⟩
                  case round => as_aux_lemma =>
                    clear HL0
                    obtain ⟨q, rfl, hql, HQ⟩ := hrel
                    have hq0 : (0 : Int) <= (q : Int) := by omega
                    by_cases hq : q < dsA.length
                    · have hq' : (q : Int) < (dsA.length : Int) := by omega
                      obtain ⟨y, hy⟩ : ∃ y, dsA[q]? = some y := ⟨dsA[q], List.getElem?_eq_getElem hq⟩
                      have hym : y ∈ dsA := List.mem_of_getElem? hy
                      obtain ⟨gd, rfl⟩ : ∃ gd, va = some ⟨gd, 0, none⟩ := by
                        rcases rowShape HQ.out.own with ⟨-, e⟩ | ⟨g, c, e⟩
                        · omega
                        · injection e with e1 _ _; exact ⟨g, e1⟩
                      have hrow := zUk HQ.out.own hy
                      obtain ⟨oa, oc, hyv⟩ := HVA.out y hym
                      have hy1 : y.v.oneCell' = true := by rw [hyv]; rfl
                      go_upto_region 38 with fail
                      go_step
                      (refine z03 rfl (pT (some ⟨gd, q * 5, none⟩)) wr (by go_simp; try rfl) ?_); simp only [Act.put, siA, scZ, scS]
                      refine wpList_load_mid rfl 77 (.tmp 159) rfl gd (q * 5) rfl y.cells _ hrow Tryz.underlying77 rfl (by kernel_rfl) ?_
                      simp only [Act.put, siA, scZ, scS]
                      (refine z03 rfl (pT (some ⟨wr.heap.size, 0, none⟩)) (wr.alloc (cT dnZ 77)) (by go_simp; try rfl) ?_); simp only [Act.put, siA, scZ, scS]
                      refine wpList_store_row rfl 77 (.tmp 21) (.tmp 160) rfl wr.heap.size y.cells.toArray rfl rfl 77 dnZ (heap_alloc_new wr _) (by kernel_rfl) rfl (zZ8 hy1) ?_
                      simp only [Act.put, siA, scZ, scS]
                      obtain ⟨hb6, hx6⟩ := zPv wr dnZ y.cells.toArray 77
                      have HQ6 : Hid (LSt w Ba Bb RA.1 db (60 * (i : Int) + 60) c b0 b1 (.slice (some ⟨gd, 0, none⟩) dsA.length vc) dsA q u18 _) := HQ.out.later hb6
                      clear hb6 HQ hrow
                      generalize (wr.alloc (cT dnZ 77)).setRow wr.heap.size y.cells.toArray = w6 at hx6 HQ6 ⊢
                      generalize wr.heap.size = g2 at hx6 ⊢
                      have p0 : w6.cell? ⟨g2, 0, none⟩ = some (B E (y.k : Int)) := (cell_of_row w6 g2 0 _ _ _ hx6).trans rfl
                      have hr6 := zYb hx6
                      by_cases hkc : y.k = c
                      · have bkc : ((y.k : Int) == (c : Int)) = true := by rw [hkc]; simp
                        go_upto_region 40 with fail
                        go_step
                        (refine z03 rfl (u18) w6 (by go_simp; try rfl) ?_); simp only [Act.put, siA, scZ, scS]
                        (refine z03 rfl (pT (some ⟨g2, 1, none⟩)) w6 (by go_simp; try rfl) ?_); simp only [Act.put, siA, scZ, scS]
                        refine wpList_load_mid rfl 75 (.tmp 166) rfl g2 1 rfl y.said.toList _ hr6 Tryz.underlying75 rfl (by kernel_rfl) ?_
                        rw [Array.toArray_toList]
                        simp only [Act.put, siA, scZ, scS]
                        obtain ⟨i0, hi0, hz0, hz1, hz2⟩ := info_parts Tryz.infoSd
                        refine wpList_buildSlice rfl 81 75 1 #[(0, .tmp 167)] rfl y.said i0 _ Tryz.underlying81 hi0 hz0 (by rw [hz1]; omega) (by rw [hz1]; omega) (by rw [hz1]; kernel_rfl) ?_
                        simp only [Act.put, siA, scZ, scS]
                        have HQ7 : Hid (LSt w Ba Bb RA.1 db (60 * (i : Int) + 60) c b0 b1 (.slice (some ⟨gd, 0, none⟩) dsA.length vc) dsA q u18 (w6.alloc (cT y.said 75))) := HQ6.out.later ((bF _ _).alloc (Nat.le_refl _) _)
                        have hsm := zYm (c := c) (q := q) hl5
                        refine wpList_append_own (w6.alloc (cT y.said 75)) rfl (.tmp 165) (.tmp 168) 81 rfl b1 75 i0 _ 4 48 Tryz.underlying81 hi0 hz0 hz1 hz2 rfl (by decide) _ _ _ rfl HQ7.out.u ⟨w6.heap.size, 0, none⟩ 1 1 y.said.toList rfl rfl (zMe w6 y.said 75) (zYg hy1) (by unfold maxLen; omega) (by omega) HQ7.out.sz ?_
                        intro v8 w8 ho8 hg8 _
                        simp only [Act.put, siA, scZ, scS]
                        have HQ8 : Hid (LSt w Ba Bb RA.1 db (60 * (i : Int) + 60) c b0 b1 (.slice (some ⟨gd, 0, none⟩) dsA.length vc) dsA (q + 1) v8 w8) := HQ7.out.put hy hkc HLA.out HLB.out hBb1 ho8 hg8
                        clear HQ7 HQ6 ho8 hg8 hx6 hr6 p0
                        go_wp2_with fail
                        exact ⟨⟨q + 1, z5i q, by omega, HQ8.out⟩, by show dsA.length - ((q : Int) + 1).toNat < dsA.length - (q : Int).toNat; omega⟩
                      · have bkc : ((y.k : Int) == (c : Int)) = false := by simp; omega
                        have HQ8 : Hid (LSt w Ba Bb RA.1 db (60 * (i : Int) + 60) c b0 b1 (.slice (some ⟨gd, 0, none⟩) dsA.length vc) dsA (q + 1) u18 w6) := HQ6.out.skip hy hkc
                        clear HQ6 hx6 hr6 hkc
                        go_wp2_with fail
                        exact ⟨⟨q + 1, z5i q, by omega, HQ8.out⟩, by show dsA.length - ((q : Int) + 1).toNat < dsA.length - (q : Int).toNat; omega⟩
                    · have hqb : decide ((q : Int) < (dsA.length : Int)) = false := decide_eq_false (by omega)
                      have hU := HQ.out.u
                      rw [List.take_of_length_le (show dsA.length <= q by omega)] at hU
                      have hA6 := HQ.out.ap
                      clear HQ
                      obtain ⟨ua, uc, rfl⟩ := z4c hU
                      go_upto_region 42 with fail
                      go_step
                      (refine z03 rfl (pT (some ⟨Bb, 0, none⟩)) wr (by go_simp; try rfl) ?_); simp only [Act.put, siA, scZ, scS]
                      refine z0p rfl 19 #[pT (some ⟨Bb, 0, none⟩)] (by go_simp; try rfl) (R := fun vd w' => ∃ ds, Kept Bb wr w' /\ DOk w' Bb RB.1 (60 * (i : Int) + 60) /\ DnAt w' wr.heap.size vd ds /\ dnL ds = RB.2 /\ ds.length <= 60) ((HRB.out wr hA6).mono fun e w' ⟨vd, ds, h1, h2⟩ => ⟨vd, h1, ds, h2⟩) ?_
                      rintro vd2 w7 ⟨dsB, hk7, hO7, hd7, hm7, hl7⟩
                      simp only [Act.put, siA, scZ, scS]
                      have hA7 : Ap2 w Ba Bb RA.1 RB.1 (60 * (i : Int) + 60) w7 := hA6.setB hk7 hO7
                      have hU7 := zZa hU hk7 hBb1
                      have HUB : Hid (∀ k, (Value.slice ua (fl c dsA).length uc).ownBlock = some k -> k < w7.heap.size) := fun k e => (World.ownsRow.lt hU7 k e).2
                      have HVB : Hid (∀ x, x ∈ dsB -> ∃ a cp, x.v = .slice a x.s.out.length cp) := fun x hx => z4c (hd7.2 x hx)
                      have HLA2 : Hid (zC8 w7.heap.size RA.1) := hA7.a.low
                      have HLB2 : Hid (zC8 w7.heap.size RB.1) := hA7.b.low
                      have hBb2 : Bb < w7.heap.size := hA7.b.at_.lt
                      have HKC : Hid (∀ x, x ∈ dsB -> x.k = c) := fun x hx => hm3 (x.k, x.s) (by rw [<- hm7]; exact List.mem_map.2 ⟨x, hx, rfl⟩)
                      have HUV : Hid ((fl c dsA).map Dn.s = (fl c dsB).map Dn.s) := by
                        have e := hm2
                        rw [<- hm5, <- hm7, <- zYk, <- zYk] at e
                        exact e
                      obtain ⟨vb, vc2, rfl⟩ := z4c hd7.1
                      have HB0 : Hid (LSt w Ba Bb RA.1 RB.1 (60 * (i : Int) + 60) c wr.heap.size w7.heap.size (.slice vb dsB.length vc2) dsB 0 (.slice none 0 0) w7 /\ w7.ownsRow b1 75 4 (.slice ua (fl c dsA).length uc) (fl c dsA).length (zY3 (fl c dsA))) := ⟨⟨hA7, hd7.1, World.ownsRow_nil _ _ _ _, Nat.le_refl _⟩, hU7⟩
                      clear hU hA6 hU7 hA7 hk7 hO7 hd7 hm2 hm3 hm5 hm7 HRB
                      generalize wr.heap.size = b3 at HB0
                      generalize w7.heap.size = b2 at HB0 HLA2 HLB2 hBb2 HUB
                      go_upto_region 43 with fail
                      go_loopw [19, 174] (fun uv qv wr => ∃ q : Nat, qv = B E q /\ q <= dsB.length /\ Hid (LSt w Ba Bb RA.1 RB.1 (60 * (i : Int) + 60) c b3 b2 (.slice vb dsB.length vc2) dsB q uv wr /\ wr.ownsRow b1 75 4 (.slice ua (fl c dsA).length uc) (fl c dsA).length (zY3 (fl c dsA)))) (fun _ qv _ => dsB.length - (intOf qv).toNat)
                      case atStart => exact ⟨0, rfl, Nat.zero_le _, HB0.out⟩
                      case round => as_aux_lemma =>
                        clear HB0
                        obtain ⟨q, rfl, hql, HQ⟩ := hrel
                        have hq0 : (0 : Int) <= (q : Int) := by omega
                        by_cases hq : q < dsB.length
                        · have hq' : (q : Int) < (dsB.length : Int) := by omega
                          obtain ⟨y, hy⟩ : ∃ y, dsB[q]? = some y := ⟨dsB[q], List.getElem?_eq_getElem hq⟩
                          have hym : y ∈ dsB := List.mem_of_getElem? hy
                          obtain ⟨gd, rfl⟩ : ∃ gd, vb = some ⟨gd, 0, none⟩ := by
                            rcases rowShape HQ.out.1.own with ⟨-, e⟩ | ⟨g, c, e⟩
                            · omega
                            · injection e with e1 _ _; exact ⟨g, e1⟩
                          have hrow := zUk HQ.out.1.own hy
                          obtain ⟨oa, oc, hyv⟩ := HVB.out y hym
                          have hy1 : y.v.oneCell' = true := by rw [hyv]; rfl
                          go_upto_region 44 with fail
                          go_step
                          (refine z03 rfl (pT (some ⟨gd, q * 5, none⟩)) wr (by go_simp; try rfl) ?_); simp only [Act.put, siA, scZ, scS]
                          refine wpList_load_mid rfl 77 (.tmp 176) rfl gd (q * 5) rfl y.cells _ hrow Tryz.underlying77 rfl (by kernel_rfl) ?_
                          simp only [Act.put, siA, scZ, scS]
                          (refine z03 rfl (pT (some ⟨wr.heap.size, 0, none⟩)) (wr.alloc (cT dnZ 77)) (by go_simp; try rfl) ?_); simp only [Act.put, siA, scZ, scS]
                          refine wpList_store_row rfl 77 (.tmp 23) (.tmp 177) rfl wr.heap.size y.cells.toArray rfl rfl 77 dnZ (heap_alloc_new wr _) (by kernel_rfl) rfl (zZ8 hy1) ?_
                          simp only [Act.put, siA, scZ, scS]
                          obtain ⟨hb6, hx6⟩ := zPv wr dnZ y.cells.toArray 77
                          have HQ6 : Hid (LSt w Ba Bb RA.1 RB.1 (60 * (i : Int) + 60) c b3 b2 (.slice (some ⟨gd, 0, none⟩) dsB.length vc2) dsB q u19 ((wr.alloc (cT dnZ 77)).setRow wr.heap.size y.cells.toArray) /\ ((wr.alloc (cT dnZ 77)).setRow wr.heap.size y.cells.toArray).ownsRow b1 75 4 (.slice ua (fl c dsA).length uc) (fl c dsA).length (zY3 (fl c dsA))) := ⟨HQ.out.1.later hb6, zY6 HQ.out.2 hb6⟩
                          clear hb6 HQ hrow
                          generalize (wr.alloc (cT dnZ 77)).setRow wr.heap.size y.cells.toArray = w6 at hx6 HQ6 ⊢
                          generalize wr.heap.size = g2 at hx6 ⊢
                          have p0 : w6.cell? ⟨g2, 0, none⟩ = some (B E (y.k : Int)) := (cell_of_row w6 g2 0 _ _ _ hx6).trans rfl
                          have hr6 := zYb hx6
                          have hkc := HKC.out y hym
                          have bkc : ((y.k : Int) != (c : Int)) = false := by rw [hkc]; simp
                          have HKY : Hid (y.k = c) := hkc
                          clear hkc
                          go_upto_region 47 with fail
                          go_step
                          (refine z03 rfl (u19) w6 (by go_simp; try rfl) ?_); simp only [Act.put, siA, scZ, scS]
                          (refine z03 rfl (pT (some ⟨g2, 1, none⟩)) w6 (by go_simp; try rfl) ?_); simp only [Act.put, siA, scZ, scS]
                          refine wpList_load_mid rfl 75 (.tmp 183) rfl g2 1 rfl y.said.toList _ hr6 Tryz.underlying75 rfl (by kernel_rfl) ?_
                          rw [Array.toArray_toList]
                          simp only [Act.put, siA, scZ, scS]
                          obtain ⟨i0, hi0, hz0, hz1, hz2⟩ := info_parts Tryz.infoSd
                          refine wpList_buildSlice rfl 81 75 1 #[(0, .tmp 184)] rfl y.said i0 _ Tryz.underlying81 hi0 hz0 (by rw [hz1]; omega) (by rw [hz1]; omega) (by rw [hz1]; kernel_rfl) ?_
                          simp only [Act.put, siA, scZ, scS]
                          have HQ7 : Hid (LSt w Ba Bb RA.1 RB.1 (60 * (i : Int) + 60) c b3 b2 (.slice (some ⟨gd, 0, none⟩) dsB.length vc2) dsB q u19 (w6.alloc (cT y.said 75)) /\ (w6.alloc (cT y.said 75)).ownsRow b1 75 4 (.slice ua (fl c dsA).length uc) (fl c dsA).length (zY3 (fl c dsA))) := ⟨HQ6.out.1.later ((bF _ _).alloc (Nat.le_refl _) _), zY6 HQ6.out.2 ((bF _ _).alloc (Nat.le_refl _) _)⟩
                          have hsm := zYm (c := c) (q := q) hl7
                          refine wpList_append_own (w6.alloc (cT y.said 75)) rfl (.tmp 182) (.tmp 185) 81 rfl b2 75 i0 _ 4 48 Tryz.underlying81 hi0 hz0 hz1 hz2 rfl (by decide) _ _ _ rfl HQ7.out.1.u ⟨w6.heap.size, 0, none⟩ 1 1 y.said.toList rfl rfl (zMe w6 y.said 75) (zYg hy1) (by unfold maxLen; omega) (by omega) HQ7.out.1.sz ?_
                          intro v8 w8 ho8 hg8 _
                          simp only [Act.put, siA, scZ, scS]
                          have HQ8 : Hid (LSt w Ba Bb RA.1 RB.1 (60 * (i : Int) + 60) c b3 b2 (.slice (some ⟨gd, 0, none⟩) dsB.length vc2) dsB (q + 1) v8 w8 /\ w8.ownsRow b1 75 4 (.slice ua (fl c dsA).length uc) (fl c dsA).length (zY3 (fl c dsA))) := ⟨HQ7.out.1.put hy HKY.out HLA2.out HLB2.out hBb2 ho8 hg8, zYs HQ7.out.2 HQ7.out.1.u hg8 HUB.out⟩
                          clear HQ7 HQ6 ho8 hg8 hx6 hr6 p0
                          go_wp2_with fail
                          exact ⟨⟨q + 1, z5i q, by omega, HQ8.out⟩, by show dsB.length - ((q : Int) + 1).toNat < dsB.length - (q : Int).toNat; omega⟩
                        · have hqb : decide ((q : Int) < (dsB.length : Int)) = false := decide_eq_false (by omega)
                          have hV := HQ.out.1.u
                          rw [List.take_of_length_le (show dsB.length <= q by omega)] at hV
                          have hlen : (fl c dsB).length = (fl c dsA).length := by have e := congrArg List.length HUV.out; rw [List.length_map, List.length_map] at e; exact e.symm
                          have hV' : wr.ownsRow b2 75 4 u19 (fl c dsA).length (zY3 (fl c dsB)) := by rw [<- hlen]; exact hV
                          obtain ⟨xa, xc, rfl⟩ := z4c hV'
                          have HC0 : Hid (Ap2 w Ba Bb RA.1 RB.1 (60 * (i : Int) + 60) wr /\ wr.ownsRow b1 75 4 (.slice ua (fl c dsA).length uc) (fl c dsA).length (zY3 (fl c dsA)) /\ wr.ownsRow b2 75 4 (.slice xa (fl c dsA).length xc) (fl c dsA).length (zY3 (fl c dsB))) := ⟨HQ.out.1.ap, HQ.out.2, hV'⟩
                          have HLEN : Hid ((fl c dsB).length = (fl c dsA).length) := hlen
                          have hn60 : (fl c dsA).length <= 60 := Nat.le_trans (zZ7 c dsA) hl5
                          clear hV hV' HQ hlen
                          go_upto_region 52 with fail
                          go_loopw [24] (fun jv wq => ∃ j : Nat, jv = B E j /\ j <= (fl c dsA).length /\ Hid (Ap2 w Ba Bb RA.1 RB.1 (60 * (i : Int) + 60) wq /\ wq.ownsRow b1 75 4 (.slice ua (fl c dsA).length uc) (fl c dsA).length (zY3 (fl c dsA)) /\ wq.ownsRow b2 75 4 (.slice xa (fl c dsA).length xc) (fl c dsA).length (zY3 (fl c dsB)))) (fun jv _ => (fl c dsA).length - (intOf jv).toNat)
                          case atStart => exact ⟨0, rfl, Nat.zero_le _, HC0.out⟩
                          case round => as_aux_lemma =>
                            clear HC0
                            obtain ⟨j, rfl, hjl, HQ⟩ := hrel
                            have hj0 : (0 : Int) <= (j : Int) := by omega
                            by_cases hj : j < (fl c dsA).length
                            · have hj' : (j : Int) < ((fl c dsA).length : Int) := by omega
                              have ej : IntKind.i64.wrap ((j : Int) + 1) = (j : Int) + 1 := by rw [IntWalk.i64_left, z0f (by omega) (by omega)]
                              obtain ⟨x1, y1, hx1, hy1, hxy⟩ := fl_get HUV.out hj
                              obtain ⟨gu, rfl⟩ : ∃ gu, ua = some ⟨gu, 0, none⟩ := by
                                rcases rowShape HQ.out.2.1 with ⟨-, e⟩ | ⟨g, c, e⟩
                                · omega
                                · injection e with e1 _ _; exact ⟨g, e1⟩
                              obtain ⟨gv, rfl⟩ : ∃ gv, xa = some ⟨gv, 0, none⟩ := by
                                rcases rowShape HQ.out.2.2 with ⟨-, e⟩ | ⟨g, c, e⟩
                                · omega
                                · injection e with e1 _ _; exact ⟨g, e1⟩
                              obtain ⟨m0, m1, m2, m3⟩ := zYl HQ.out.2.1 hx1
                              obtain ⟨n0, n1, n2, n3⟩ := zYl (l := fl c dsB) (by have h := HQ.out.2.2; rw [<- HLEN.out] at h; exact h) hy1
                              obtain ⟨oa, oc, hxv⟩ := HVA.out x1 (zZ6 (List.mem_of_getElem? hx1))
                              obtain ⟨oa2, oc2, hyv⟩ := HVB.out y1 (zZ6 (List.mem_of_getElem? hy1))
                              rw [hxv] at m2
                              rw [hyv] at n2
                              rw [hxy] at m0 m1 m2 m3
                              generalize y1.s = sd at m0 m1 m2 m3 n0 n1 n2 n3
                              clear hx1 hy1 hxy hxv hyv
                              go_upto_region 54 with fail
                              go_cut [250] (fun cv wx => cv = .bool false /\ Hid (Ap2 w Ba Bb RA.1 RB.1 (60 * (i : Int) + 60) wx /\ wx.ownsRow b1 75 4 (.slice (some ⟨gu, 0, none⟩) (fl c dsA).length uc) (fl c dsA).length (zY3 (fl c dsA)) /\ wx.ownsRow b2 75 4 (.slice (some ⟨gv, 0, none⟩) (fl c dsA).length xc) (fl c dsA).length (zY3 (fl c dsB))))
                              case first => as_aux_lemma =>
                                go_quiet (fail)
                                go_wp2_with fail
                                go_meet
                                exact ⟨rfl, HQ.out.1.drewN nq, zY6 HQ.out.2.1 (below_drewN (bF _ _) nq), zY6 HQ.out.2.2 (below_drewN (bF _ _) nq)⟩
                              case rest => as_aux_lemma =>
                                clear HQ m0 m1 m2 m3 n0 n1 n2 n3
                                obtain ⟨rfl, HQ9⟩ := hcut
                                go_wp2_with fail
                                exact ⟨⟨j + 1, z5i j, by omega, HQ9.out⟩, by show (fl c dsA).length - ((j : Int) + 1).toNat < (fl c dsA).length - (j : Int).toNat; omega⟩
                            · have hj' : ¬ ((j : Int) < ((fl c dsA).length : Int)) := by omega
                              have HF6 : Hid (ApS w Ba Bb c (i + 1) wr) := ⟨_, _, HQ.out.1.mono (by omega), HMR.out⟩
                              clear HQ
                              go_wp2_with fail
                              go_meet
                              exact HF6
                · have b1 : (x.what == 1) = false := by simpa using c1
                  clear c1
                  have HF6 : Hid (ApS w Ba Bb c (i + 1) w4) := ⟨_, _, HF4.out.mono (by omega), HM4.out⟩
                  clear HF4 HM4
                  go_wp2_with fail
                  go_meet
                  exact HF6
          case rest => as_aux_lemma =>
            clear HF4 HM4 q0 q1 q2 q3 hx4
            obtain ⟨da, db, hA, hM⟩ := hcut.out.ex
            have HW : Hid (∀ Bx, Bx = Ba \/ Bx = Bb -> Calls tP 11 #[pT (some ⟨Bx, 0, none⟩), B E (c : Int)] wc fun e w' => e = rT (B E ((da.g c).evs.length : Int)) /\ w' = wc) := fun Bx h => by
              rcases h with rfl | rfl
              · exact zB2 Bx c hc da wc hA.a.at_
              · rw [hM.same.evs]; exact zB2 Bx c hc db wc hA.b.at_
            have HLe : Hid (∀ Bx, Bx = Ba \/ Bx = Bb -> Calls tP 12 #[pT (some ⟨Bx, 0, none⟩), B E (c : Int)] wc fun e w' => e = rT (B E (da.g c).left) /\ w' = wc) := fun Bx h => by
              rcases h with rfl | rfl
              · exact zU8 Bx c hc da wc hA.a.at_
              · rw [hM.same.left]; exact zU8 Bx c hc db wc hA.b.at_
            clear hA hM
            have ei : IntKind.i64.wrap ((i : Int) + 1) = (i : Int) + 1 := by rw [IntWalk.i64_left, z0f (by omega) (by omega)]
            go_wp2_with (first | (go_at_call 11; go_must (refine (HW.out _ (by first | exact Or.inl rfl | exact Or.inr rfl)).mono ?_; rintro e wc ⟨rfl, rfl⟩)) | (go_at_call 12; go_must (refine (HLe.out _ (by first | exact Or.inl rfl | exact Or.inr rfl)).mono ?_; rintro e wc ⟨rfl, rfl⟩)) | fail)
            exact ⟨⟨i + 1, z5i i, by omega, hcut.out⟩, by show xs.length - ((i : Int) + 1).toNat < xs.length - (i : Int).toNat; omega⟩
    · have hi' : ¬ ((i : Int) < (xs.length : Int)) := by omega
      obtain ⟨da, db, hA, -⟩ := H.out.ex
      have hbel := hA.bel
      clear hA H
      go_wp2_with fail
      go_ret
      exact ⟨rfl, hbel⟩
end
section
/-! ### From the reading to the cells -/
/-- What the walk is told of a list that came in: it is empty, or there are steps in a block, with numbers of 64 bits. -/
def zLe (w : World) (a : Option Addr) (len : Nat) : Prop :=
 len = 0 \/ ∃ (bk off : Nat) (C D S O N : Nat -> Int) (R : Nat -> Bool), a = some ⟨bk, off, none⟩ /\ bk < w.heap.size /\ z1l w bk off len C D S R O N /\ ∀ i, i < len -> Fits (O i) /\ Fits (N i)
theorem zQx {n : Int} (h : (Lit.int .i64 n).wf = true) : Fits n := by
 have h' : (decide (-9223372036854775808 <= n) && decide (n <= 9223372036854775807)) = true := h
 simp at h'
 exact h'
theorem z7k {w : World} {base : Nat} {a : Addr} {n : Nat} {cs : List Value} (h : w.cells? base a n = some cs) (i : Nat) (hi : i < n) : w.cell? (a.add i) = cs[i]? := by
 unfold World.cells? at h
 split at h
 ·exact mapM_some_get h i i (by simp [hi])
 ·cases h
theorem six {l : List Value} (h : l.length = 6) : ∃ a b c d e f, l = [a, b, c, d, e, f] := by
 match l, h with
 | [a, b, c, d, e, f], _ => exact ⟨a, b, c, d, e, f, rfl⟩
section
variable {H : Type} {enc : TypeId × Value -> H} {w : World}
theorem zP4 {n : Nat} {cs : List Value} {x : DataW H × List MemPlace} (h : DataW.trod enc tP w 0 (fun _ => true) true n 80 cs = some x) :
  ∃ y : Int × Int × Int × Bool × Int × Int, cs = [.int .i64 y.1, .int .i64 y.2.1, .int .i64 y.2.2.1, .bool y.2.2.2.1, .int .i64 y.2.2.2.2.1, .int .i64 y.2.2.2.2.2] /\ Fits y.2.2.2.2.1 /\ Fits y.2.2.2.2.2 := by
 obtain ⟨xs, m, _, _, hl, hx, hf⟩ := DataW.trod_struct Tryz.underlying80 h
 have hl6 : cs.length = 6 := by rw [hl]; kernel_rfl
 have hx6 : xs.length = 6 := hx
 obtain ⟨a, b, c, d, e, f, rfl⟩ := six hl6
 have k3 : Tryz.prog.cellsOf 3 = 1 := by kernel_rfl
 have k2 : Tryz.prog.cellsOf 2 = 1 := by kernel_rfl
 have k4 : Tryz.prog.cellsOf 4 = 1 := by kernel_rfl
 have at_ : ∀ i, i < 6 -> ∃ y, xs[i]? = some y := fun i hi => ⟨xs[i]'(by omega), List.getElem?_eq_getElem _⟩
 obtain ⟨y0, e0⟩ := at_ 0 (by decide)
 obtain ⟨y1, e1⟩ := at_ 1 (by decide)
 obtain ⟨y2, e2⟩ := at_ 2 (by decide)
 obtain ⟨y3, e3⟩ := at_ 3 (by decide)
 obtain ⟨y4, e4⟩ := at_ 4 (by decide)
 obtain ⟨y5, e5⟩ := at_ 5 (by decide)
 have f0 : DataW.trod enc tP w 0 (fun _ => true) true m 3 (([a, b, c, d, e, f].drop 0).take (Tryz.prog.cellsOf 3)) = some y0 := (hf 0 _ rfl).trans e0
 have f1 : DataW.trod enc tP w 0 (fun _ => true) true m 3 (([a, b, c, d, e, f].drop 1).take (Tryz.prog.cellsOf 3)) = some y1 := (hf 1 _ rfl).trans e1
 have f2 : DataW.trod enc tP w 0 (fun _ => true) true m 3 (([a, b, c, d, e, f].drop 2).take (Tryz.prog.cellsOf 3)) = some y2 := (hf 2 _ rfl).trans e2
 have f3 : DataW.trod enc tP w 0 (fun _ => true) true m 4 (([a, b, c, d, e, f].drop 3).take (Tryz.prog.cellsOf 4)) = some y3 := (hf 3 _ rfl).trans e3
 have f4 : DataW.trod enc tP w 0 (fun _ => true) true m 3 (([a, b, c, d, e, f].drop 4).take (Tryz.prog.cellsOf 3)) = some y4 := (hf 4 _ rfl).trans e4
 have f5 : DataW.trod enc tP w 0 (fun _ => true) true m 2 (([a, b, c, d, e, f].drop 5).take (Tryz.prog.cellsOf 2)) = some y5 := (hf 5 _ rfl).trans e5
 rw [k3] at f0 f1 f2 f4
 rw [k4] at f3
 rw [k2] at f5
 obtain ⟨n0, g0, _, _⟩ := DataW.trod_int Tryz.underlying3 f0
 obtain ⟨n1, g1, _, _⟩ := DataW.trod_int Tryz.underlying3 f1
 obtain ⟨n2, g2, _, _⟩ := DataW.trod_int Tryz.underlying3 f2
 obtain ⟨n3, g3, _⟩ := DataW.trod_bool Tryz.underlying4 f3
 obtain ⟨n4, g4, _, b4⟩ := DataW.trod_int Tryz.underlying3 f4
 obtain ⟨n5, g5, _, b5⟩ := DataW.trod_int Tryz.underlying2 f5
 simp at g0 g1 g2 g3 g4 g5
 exact ⟨(n0, n1, n2, n3, n4, n5), by rw [g0, g1, g2, g3, g4, g5], zQx b4, zQx b5⟩
theorem zM8 {a : Option Addr} {len cap : Nat} {d : DataW H} {ps : List MemPlace} (h : DataW.Trod enc tP w 0 (fun _ => true) true 33 (.slice a len cap) d ps) : zLe w a len := by
 obtain ⟨fuel, hf⟩ := h
 rcases Deep.open_slice Tryz.underlying33 hf with ⟨hcs, _⟩ | ⟨x, l, c, m, n, Da, Pl, hcs, _, hl, hm, hmm, _, hx⟩
 ·simp [Value.cells] at hcs
  exact Or.inl hcs.2.1
 ·simp [Value.cells] at hcs
  obtain ⟨rfl, rfl, rfl⟩ := hcs
  by_cases h0 : len = 0
  ·exact Or.inl h0
  have hc6 : Tryz.prog.cellsOf 80 = 6 := by kernel_rfl
  have all : ∀ i, ∃ y : Int × Int × Int × Bool × Int × Int, i < len -> (∀ j, j < 6 -> w.cell? ((x.add (i * 6)).add j) = [Value.int .i64 y.1, .int .i64 y.2.1, .int .i64 y.2.2.1, .bool y.2.2.2.1, .int .i64 y.2.2.2.2.1, .int .i64 y.2.2.2.2.2][j]?) /\ Fits y.2.2.2.2.1 /\ Fits y.2.2.2.2.2 := by
   intro i
   by_cases hi : i < len
   ·have him : i < m := by rw [hmm]; simp; omega
    obtain ⟨cs, hcc, ht⟩ := hx i him
    rw [hc6] at hcc
    obtain ⟨y, hy, hf4, hf5⟩ := zP4 ht
    refine ⟨y, fun _ => ⟨fun j hj => ?_, hf4, hf5⟩⟩
    rw [<- hy]
    exact z7k hcc j hj
   ·exact ⟨(0, 0, 0, false, 0, 0), fun h => absurd h hi⟩
  obtain ⟨f, hf'⟩ := Classical.axiomOfChoice all
  obtain ⟨b, off, spot⟩ := x
  have hc0 := (hf' 0 (by omega)).1 0 (by decide)
  have hspot : spot = none := by simpa [Addr.add] using World.cell?_spot hc0
  subst hspot
  have hb : b < w.heap.size := by
   rcases Nat.lt_or_ge b w.heap.size with g | g
   ·exact g
   ·simp [World.cell?, Addr.add, Array.getElem?_eq_none g] at hc0
  refine Or.inr ⟨b, off, fun i => (f i).1, fun i => (f i).2.1, fun i => (f i).2.2.1, fun i => (f i).2.2.2.2.1, fun i => (f i).2.2.2.2.2, fun i => (f i).2.2.2.1, rfl, hb, fun i hi => ?_, fun i hi => (hf' i hi).2⟩
  have g : ∀ j, j < 6 -> w.cell? ⟨b, off + i * 6 + j, none⟩ = [Value.int .i64 (f i).1, .int .i64 (f i).2.1, .int .i64 (f i).2.2.1, .bool (f i).2.2.2.1, .int .i64 (f i).2.2.2.2.1, .int .i64 (f i).2.2.2.2.2][j]? := fun j hj => by
   rw [<- Go.WideShapes.add_plain, <- Go.WideShapes.add_plain]; exact (hf' i hi).1 j hj
  exact ⟨g 0 (by decide), g 1 (by decide), g 2 (by decide), g 3 (by decide), g 4 (by decide), g 5 (by decide)⟩
end
end
section
section
variable {H : Type} {enc : TypeId × Value -> H} {w : World}
theorem zNg {a : Option Addr} {len cap : Nat} (h : zLe w a len) : ∃ xs, LsAt w (.slice a len cap) xs := by
 rcases h with h | ⟨bk, off, C, D, S, O, N, R, e, hb, hst, hf⟩
 ·exact ⟨[], ⟨a, cap, by rw [h]; rfl, Or.inl rfl⟩, fun j hj => absurd hj (Nat.not_lt_zero _)⟩
 ·have hl : (zA1 len C D S R O N).length = len := by unfold zA1; simp
  have hn : ∀ j, j < len -> nth (zA1 len C D S R O N) j = ⟨C j, D j, S j, R j, O j, N j⟩ := fun j hj => by
   unfold nth zA1
   rw [List.getElem?_map, List.getElem?_range hj]
   rfl
  refine ⟨zA1 len C D S R O N, ⟨a, cap, by rw [hl], Or.inr ⟨bk, off, e, hb, ?_⟩⟩, fun j hj => ?_⟩
  ·rw [hl]
   intro i hi
   have := hst i hi
   dsimp only
   rw [hn i hi]
   exact this
  ·rw [hl] at hj
   rw [hn j hj]
   exact hf j hj
theorem zNv {n : Nat} {cs : List Value} {x : DataW H × List MemPlace} (hl : cs.length = 8) (h : DataW.trod enc tP w 0 (fun _ => true) true n 34 cs = some x) : ∃ T : Nat -> Int, cs = [B E (T 0), B E (T 1), B E (T 2), B E (T 3), B E (T 4), B E (T 5), B E (T 6), B E (T 7)] /\ ∀ i, i < 8 -> In64 (T i) := by
 obtain ⟨xs, m, _, _, _, hx, hi⟩ := DataW.trod_array Tryz.underlying34 h
 have k2 : Tryz.prog.cellsOf 2 = 1 := by kernel_rfl
 have all : ∀ i, ∃ n : Int, i < 8 -> cs[i]? = some (B E n) /\ In64 n := by
  intro i
  by_cases h8 : i < 8
  ·have e := hi i h8
   rw [k2, Nat.mul_one, List.getElem?_eq_getElem (by omega)] at e
   obtain ⟨n, g, _, wf⟩ := DataW.trod_int Tryz.underlying2 e
   have g1 : cs[i]? = some (B E n) := by
    have e1 : ((cs.drop i).take 1)[0]? = some (B E n) := by rw [g]; rfl
    rw [List.getElem?_take, if_pos (by decide), List.getElem?_drop] at e1
    exact e1
   exact ⟨n, fun _ => ⟨g1, bounds_i64 wf⟩⟩
  ·exact ⟨0, fun h => absurd h h8⟩
 obtain ⟨T, hT⟩ := Classical.axiomOfChoice all
 refine ⟨T, ?_, fun i h8 => (hT i h8).2⟩
 apply List.ext_getElem?
 intro i
 by_cases h8 : i < 8
 ·rw [(hT i h8).1]
  rcases (show i = 0 \/ i = 1 \/ i = 2 \/ i = 3 \/ i = 4 \/ i = 5 \/ i = 6 \/ i = 7 by omega) with rfl | rfl | rfl | rfl | rfl | rfl | rfl | rfl <;> rfl
 ·rw [List.getElem?_eq_none (by omega), List.getElem?_eq_none (by simp; omega)]
theorem zZ4 {l : List Value} (h : l.length = 12) : ∃ a b c d e f g i j k m n, l = [a, b, c, d, e, f, g, i, j, k, m, n] := by
 match l, h with
 | [a, b, c, d, e, f, g, i, j, k, m, n], _ => exact ⟨a, b, c, d, e, f, g, i, j, k, m, n, rfl⟩
theorem zV9 {n : Nat} {cs : List Value} {x : DataW H × List MemPlace} (h : DataW.trod enc tP w 0 (fun _ => true) true n 67 cs = some x) :
  ∃ y : Ac, cs = y.cs.toList /\ LsAt w y.code y.xs /\ (∀ i, i < 8 -> In64 (y.T i)) := by
 obtain ⟨xs, m, _, _, hl, hx, hf⟩ := DataW.trod_struct Tryz.underlying67 h
 have hl12 : cs.length = 12 := by rw [hl]; kernel_rfl
 have hx5 : xs.length = 5 := hx
 obtain ⟨a, b, c, d, e, f, g, i, j, k, m1, n1, rfl⟩ := zZ4 hl12
 have k3 : Tryz.prog.cellsOf 3 = 1 := by kernel_rfl
 have k4 : Tryz.prog.cellsOf 33 = 1 := by kernel_rfl
 have k8 : Tryz.prog.cellsOf 34 = 8 := by kernel_rfl
 have at_ : ∀ i, i < 5 -> ∃ y, xs[i]? = some y := fun i hi => ⟨xs[i]'(by omega), List.getElem?_eq_getElem _⟩
 obtain ⟨y0, e0⟩ := at_ 0 (by decide)
 obtain ⟨y1, e1⟩ := at_ 1 (by decide)
 obtain ⟨y2, e2⟩ := at_ 2 (by decide)
 obtain ⟨y3, e3⟩ := at_ 3 (by decide)
 obtain ⟨y4, e4⟩ := at_ 4 (by decide)
 have f0 : DataW.trod enc tP w 0 (fun _ => true) true m 3 (([a, b, c, d, e, f, g, i, j, k, m1, n1].drop 0).take (Tryz.prog.cellsOf 3)) = some y0 := (hf 0 _ rfl).trans e0
 have f1 : DataW.trod enc tP w 0 (fun _ => true) true m 3 (([a, b, c, d, e, f, g, i, j, k, m1, n1].drop 1).take (Tryz.prog.cellsOf 3)) = some y1 := (hf 1 _ rfl).trans e1
 have f2 : DataW.trod enc tP w 0 (fun _ => true) true m 3 (([a, b, c, d, e, f, g, i, j, k, m1, n1].drop 2).take (Tryz.prog.cellsOf 3)) = some y2 := (hf 2 _ rfl).trans e2
 have f3 : DataW.trod enc tP w 0 (fun _ => true) true m 33 (([a, b, c, d, e, f, g, i, j, k, m1, n1].drop 3).take (Tryz.prog.cellsOf 33)) = some y3 := (hf 3 _ rfl).trans e3
 have f4 : DataW.trod enc tP w 0 (fun _ => true) true m 34 (([a, b, c, d, e, f, g, i, j, k, m1, n1].drop 4).take (Tryz.prog.cellsOf 34)) = some y4 := (hf 4 _ rfl).trans e4
 rw [k3] at f0 f1 f2
 rw [k4] at f3
 rw [k8] at f4
 obtain ⟨n0, g0, _, _⟩ := DataW.trod_int Tryz.underlying3 f0
 obtain ⟨n2, g1, _, _⟩ := DataW.trod_int Tryz.underlying3 f1
 obtain ⟨n3, g2, _, _⟩ := DataW.trod_int Tryz.underlying3 f2
 obtain ⟨T, g4, hT⟩ := zNv rfl f4
 have f3' : DataW.trod enc tP w 0 (fun _ => true) true m 33 [d] = some y3 := f3
 obtain ⟨p, len, cap, rfl⟩ : ∃ p len cap, d = .slice p len cap := by
  rcases Deep.open_slice Tryz.underlying33 f3' with ⟨hcs, _⟩ | ⟨x, l, c, m, n, Da, Pl, hcs, _⟩
  ·exact ⟨_, _, _, List.singleton_inj.1 hcs⟩
  ·exact ⟨_, _, _, List.singleton_inj.1 hcs⟩
 obtain ⟨zs, hz⟩ := zNg (cap := cap) (zM8 (cap := cap) (d := y3.1) (ps := y3.2) ⟨m, f3'⟩)
 simp at g0 g1 g2 g4
 refine ⟨⟨n0, n2, n3, .slice p len cap, zs, T⟩, ?_, hz, hT⟩
 obtain ⟨q0, q1, q2, q3, q4, q5, q6, q7⟩ := g4
 rw [g0, g1, g2, q0, q1, q2, q3, q4, q5, q6, q7]
 rfl
theorem zSd {a : Option Addr} {len cap : Nat} {d : DataW H} {ps : List MemPlace} (h : DataW.Trod enc tP w 0 (fun _ => true) true 62 (.slice a len cap) d ps) : ∃ xs, xs.length = len /\ zDl w a xs := by
 obtain ⟨fuel, hf⟩ := h
 rcases Deep.open_slice Tryz.underlying62 hf with ⟨hcs, _⟩ | ⟨x, l, c, m, n, Da, Pl, hcs, _, hl, hm, hmm, _, hx⟩
 ·simp [Value.cells] at hcs
  exact ⟨[], hcs.2.1.symm, Or.inl rfl, fun x hx => absurd hx List.not_mem_nil, fun x hx => absurd hx List.not_mem_nil⟩
 ·simp [Value.cells] at hcs
  obtain ⟨rfl, rfl, rfl⟩ := hcs
  by_cases h0 : len = 0
  ·exact ⟨[], h0.symm, Or.inl rfl, fun x hx => absurd hx List.not_mem_nil, fun x hx => absurd hx List.not_mem_nil⟩
  have hc12 : Tryz.prog.cellsOf 67 = 12 := by kernel_rfl
  have all : ∀ i, ∃ y : Ac, i < len -> (∀ j, j < 12 -> w.cell? ((x.add (i * 12)).add j) = y.cs.toList[j]?) /\ LsAt w y.code y.xs /\ ∀ i, i < 8 -> In64 (y.T i) := by
   intro i
   by_cases hi : i < len
   ·have him : i < m := by rw [hmm]; simp; omega
    obtain ⟨cs, hcc, ht⟩ := hx i him
    rw [hc12] at hcc
    obtain ⟨y, hy, h1, h2⟩ := zV9 ht
    refine ⟨y, fun _ => ⟨fun j hj => ?_, h1, h2⟩⟩
    rw [<- hy]
    exact z7k hcc j hj
   ·exact ⟨ac0, fun h => absurd h hi⟩
  obtain ⟨f, hf'⟩ := Classical.axiomOfChoice all
  obtain ⟨b, off, spot⟩ := x
  have hc0 := (hf' 0 (by omega)).1 0 (by decide)
  have hspot : spot = none := by simpa [Addr.add, Ac.cs] using World.cell?_spot hc0
  subst hspot
  have hb : b < w.heap.size := by
   rcases Nat.lt_or_ge b w.heap.size with g | g
   ·exact g
   ·simp [World.cell?, Addr.add, Array.getElem?_eq_none g, Ac.cs] at hc0
  have hlen : ((List.range len).map f).length = len := by simp
  refine ⟨(List.range len).map f, hlen, Or.inr ⟨b, off, rfl, hb, fun i hi => ?_⟩, fun x hx => ?_, fun x hx => ?_⟩
  ·rw [hlen] at hi
   have e : ((List.range len).map f).getD i ac0 = f i := by rw [List.getD_eq_getElem?_getD, List.getElem?_map, List.getElem?_range hi]; rfl
   rw [e]
   intro j v hv
   have hj : j < 12 := by have := (List.getElem?_eq_some_iff.1 hv).1; simpa [Ac.cs] using this
   have := (hf' i hi).1 j hj
   rw [Go.WideShapes.add_plain, Go.WideShapes.add_plain, hv] at this
   exact this
  ·obtain ⟨i, hi, rfl⟩ := List.mem_map.1 hx
   exact (hf' i (List.mem_range.1 hi)).2.1
  ·obtain ⟨i, hi, rfl⟩ := List.mem_map.1 hx
   exact (hf' i (List.mem_range.1 hi)).2.2
end
end
section
section
variable {H : Type} {enc : TypeId × Value -> H} {w : World}
theorem zZ3 {n : Nat} {cs : List Value} {x : DataW H × List MemPlace} (h : DataW.trod enc tP w 0 (fun _ => true) true n 67 cs = some x) :
  ∀ p len cap, cs[3]? = some (.slice p len cap) -> len <= 9223372036854775807 := by
 intro p len cap hc
 obtain ⟨xs, m, _, _, hl, hx, hf⟩ := DataW.trod_struct Tryz.underlying67 h
 have hl12 : cs.length = 12 := by rw [hl]; kernel_rfl
 have hx5 : xs.length = 5 := hx
 obtain ⟨a, b, c, d, e, f, g, i, j, k, m1, n1, rfl⟩ := zZ4 hl12
 have k4 : Tryz.prog.cellsOf 33 = 1 := by kernel_rfl
 obtain ⟨y3, e3⟩ : ∃ y, xs[3]? = some y := ⟨xs[3]'(by omega), List.getElem?_eq_getElem _⟩
 have f3 : DataW.trod enc tP w 0 (fun _ => true) true m 33 (([a, b, c, d, e, f, g, i, j, k, m1, n1].drop 3).take (Tryz.prog.cellsOf 33)) = some y3 := (hf 3 _ rfl).trans e3
 rw [k4] at f3
 have f3' : DataW.trod enc tP w 0 (fun _ => true) true m 33 [d] = some y3 := f3
 have hd : d = .slice p len cap := Option.some.inj hc
 rcases Deep.open_slice Tryz.underlying33 f3' with ⟨hcs, _⟩ | ⟨x, l, c, m, n, Da, Pl, hcs, _, h1, h2, _⟩
 ·have e := List.singleton_inj.1 hcs
  rw [hd] at e
  injection e with _ e2 _
  omega
 ·have e := List.singleton_inj.1 hcs
  rw [hd] at e
  injection e with _ e2 _
  unfold maxLen at h2
  omega
theorem zYw {a : Option Addr} {len cap : Nat} {d : DataW H} {ps : List MemPlace} (h : DataW.Trod enc tP w 0 (fun _ => true) true 62 (.slice a len cap) d ps) {xs : List Ac} (hl : xs.length = len) (hA : zDl w a xs) : ∀ x, x ∈ xs -> x.xs.length <= 9223372036854775807 := by
 intro x hx
 obtain ⟨i, hi, hxi⟩ := List.getElem_of_mem hx
 obtain ⟨fuel, hf⟩ := h
 rcases Deep.open_slice Tryz.underlying62 hf with ⟨hcs, _⟩ | ⟨z, l, c, m, n, Da, Pl, hcs, _, h1, h2, hmm, _, hxx⟩
 ·simp [Value.cells] at hcs
  omega
 ·simp [Value.cells] at hcs
  obtain ⟨rfl, rfl, rfl⟩ := hcs
  have hc12 : Tryz.prog.cellsOf 67 = 12 := by kernel_rfl
  have him : i < m := by rw [hmm]; simp; omega
  obtain ⟨cs, hcc, ht⟩ := hxx i him
  rw [hc12] at hcc
  have c3 := z7k hcc 3 (by decide)
  obtain ⟨p, cap2, hcode, -⟩ := (hA.code x hx).lies
  rcases hA.lies with h0 | ⟨bk, off, e, hbk, hrow⟩
  ·omega
  ·have e' := Option.some.inj e
   have hg : xs.getD i ac0 = x := by rw [List.getD_eq_getElem?_getD, List.getElem?_eq_getElem hi]; exact hxi
   have hr := hrow i hi 3 x.code (by rw [hg]; rfl)
   rw [e', Go.WideShapes.add_plain, Go.WideShapes.add_plain, hr, hcode] at c3
   exact zZ3 ht p _ _ c3.symm
end
end
/-- A table of texts, as a row lists it. -/
def zDr {H : Type} (xs : List (List UInt8)) : DataW H := .agg (xs.map fun b => .lit (.string b))
theorem zF6 {H : Type} {enc : TypeId × Value -> H} {P : Program} {w : World} {base : Nat} {sp : Nat -> Bool} {held : Bool} {fuel : Nat} {t e : TypeId} {n : Nat} {cs : List Value} {xs : List (List UInt8)} {p : List MemPlace}
  (ht : P.underlying t = some (.array n e)) (he : P.underlying e = some .string) (hce : P.cellsOf e = 1) (hct : P.cellsOf t = n)
  (h : DataW.trod enc P w base sp held fuel t cs = some (zDr xs, p)) : ∀ (i : Nat) (b : List UInt8), xs[i]? = some b -> cs[i]? = some (Value.string ⟨b.toArray⟩) := by
 intro i b hib
 cases fuel with
 | zero => simp [DataW.trod] at h
 | succ fuel =>
  simp only [DataW.trod, ht, hce, hct, Nat.mul_one] at h
  split at h
  ·obtain ⟨ys, hm, hx⟩ := Option.map_eq_some_iff.1 h
   have hxs : ys.map (·.1) = xs.map fun b => (DataW.lit (.string b) : DataW H) := by
    have := congrArg Prod.fst hx
    simpa [zDr] using this
   have hyl : ys.length = n := by simpa using Lib.mapM_length hm
   have hxl : xs.length = n := by
    have := congrArg List.length hxs
    simp at this
    omega
   have hi : i < n := by
    have := (List.getElem?_eq_some_iff.1 hib).1
    omega
   obtain ⟨y, hy, hf⟩ := Lib.mapM_at hm i i (by simp [hi])
   obtain ⟨s, hc, rfl, _⟩ := DataW.trod_string he hf
   have h1 : cs[i]? = some (.string s) := by
    have := congrArg (·[0]?) hc
    simpa [List.getElem?_take, List.getElem?_drop] using this
   have h2 : (ys.map (·.1))[i]? = some (DataW.lit (.string s.data.toList) : DataW H) := by simp [hy]
   rw [hxs] at h2
   simp only [List.getElem?_map, hib, Option.map_some, Option.some.injEq, DataW.lit.injEq, Lit.string.injEq] at h2
   rw [h1, h2]
  ·cases h
theorem z7p {P : Program} {w : World} : ∀ {l : List (String × DataW Unit)} {ps : List MemPlace}, DataW.LaidVars P w l ps -> ∀ x ∈ l, ∃ g t cs fuel p, P.globalNamed x.1 = some g /\ (P.globals[g]?).map (·.type) = some t /\ w.var? P x.1 = some cs /\ DataW.trod (fun _ => ()) P w 0 (fun _ => true) false fuel t cs.toList = some (x.2, p)
 | [], _, _, x, hx => by cases hx
 | (n, d) :: r, ps, h, x, hx => by
  obtain ⟨g, t, cs, fuel, p, q, h1, h2, h3, h4, h5, _⟩ := h
  rcases List.mem_cons.1 hx with rfl | hx
  ·exact ⟨g, t, cs, fuel, p, h1, h2, h3, h4⟩
  ·exact z7p h5 x hx
theorem z9z {P : Program} {w : World} {l : List (String × DataW Unit)} (h : laidMet P l w) {name : String} {xs : List (List UInt8)} {g n : Nat} {t e : TypeId} (hx : (name, zDr xs) ∈ l)
  (hg : P.globalNamed name = some g) (hty : (P.globals[g]?).map (·.type) = some t) (ht : P.underlying t = some (.array n e)) (he : P.underlying e = some .string) (hce : P.cellsOf e = 1) (hct : P.cellsOf t = n) :
  ∀ (i : Nat) (b : List UInt8), xs[i]? = some b -> w.cell? ⟨g, i, none⟩ = some (.string ⟨b.toArray⟩) := by
 obtain ⟨ps, hl, _⟩ := h
 obtain ⟨g', t', cs, fuel, p, h1, h2, h3, h4⟩ := z7p hl _ hx
 obtain rfl := Option.some.inj (hg.symm.trans h1)
 obtain rfl := Option.some.inj (hty.symm.trans h2)
 intro i b hib
 have h5 := zF6 ht he hce hct h4 i b hib
 have h6 := World.var?_cell hg h3 i
 rw [h6, <- h5, Array.getElem?_toList]
theorem zW7 {w : World} {l : List (String × DataW Unit)} (h : laidMet tP l w) (hx : ("internal/strconv.uint64pow10", Rows.laid_internal_strconv_uint64pow10) ∈ l) : Lib.TabIs tP w "internal/strconv.uint64pow10" .u64 Lib.pow10Tab := by
 obtain ⟨ps, hl, _⟩ := h
 obtain ⟨g', t', cs, fuel, p, h1, h2, h3, h4⟩ := z7p hl _ hx
 obtain rfl := Option.some.inj (zVe.symm.trans h1)
 obtain rfl := Option.some.inj ((show (Tryz.prog.globals[9]?).map (·.type) = some 371 by kernel_rfl).symm.trans h2)
 have h5 : cs.toList = Lib.pow10Tab.map fun z => Value.int .u64 z := Lib.cells_of_tab (n := 20) (e := 264) Tryz.underlying371 Tryz.underlying264 (by kernel_rfl) (by kernel_rfl) (show DataW.trod (fun _ => ()) tP w 0 (fun _ => true) false fuel 371 cs.toList = some (Lib.tabData .u64 Lib.pow10Tab, p) from h4)
 unfold Lib.TabIs
 rw [h3, <- h5]
/-- The project's tables, where they are listed. -/
theorem zFi {ex : Ext} {w : World} {l : List (String × DataW Unit)} (h : laidMet tP l w) (h0 : ("internal/strconv.uint64pow10", Rows.laid_internal_strconv_uint64pow10) ∈ l)
  (h1 : ("gatehouse/asm.names", Rows.laid_gatehouse_asm_names) ∈ l) (h2 : ("gatehouse/asm.calls", Rows.laid_gatehouse_asm_calls) ∈ l) (hroom : 12 <= w.heap.size) (hx : ex.holds w) : Tabs ex w := by
 have e1 := z9z h (xs := zCv) (g := 1) (n := 29) (t := 234) (e := 9) h1 (by kernel_rfl) (by kernel_rfl) Tryz.underlying234 Tryz.underlying9 (by kernel_rfl) (by kernel_rfl)
 have e2 := z9z h (xs := zDg) (g := 3) (n := 4) (t := 273) (e := 9) h2 (by kernel_rfl) (by kernel_rfl) Tryz.underlying273 Tryz.underlying9 (by kernel_rfl) (by kernel_rfl)
 refine ⟨hroom, fun i hi => ?_, fun i hi => ?_, zW7 h h0, hx⟩
 ·exact e1 i _ (by rw [List.getD_eq_getElem?_getD, List.getElem?_eq_getElem (show i < zCv.length from hi)]; rfl)
 ·exact e2 i _ (by rw [List.getD_eq_getElem?_getD, List.getElem?_eq_getElem (show i < zDg.length from hi)]; rfl)
theorem rt : (Tryz.prog.cutTypes.find? (·.1 == "internal/reflectlite.rtype")).map (·.2) = some 286 := by kernel_rfl
theorem oneRow : ((List.range 405).filter fun t => Tryz.prog.rowNamed t [101, 114, 114, 111, 114]) = [26] := by kernel_rfl
theorem ntypes : Tryz.prog.types.size = 405 := by kernel_rfl
theorem et : Tryz.prog.globalNamed "errors.errorType" = some 2 := by kernel_rfl
theorem handle_met {W : World} (h : handlesMet tP [("errors.errorType", Rows.laid_errors_errorType)] W) : zLf W := by
 obtain ⟨name, u, ty, e1, e2, e3, e4, e5⟩ := h _ (List.mem_singleton.2 rfl)
 have en : name = [101, 114, 114, 111, 114] := (Option.some.inj e1).symm
 subst en
 obtain rfl := Option.some.inj (rt.symm.trans e2)
 have hm : ty ∈ (List.range 405).filter fun t => Tryz.prog.rowNamed t [101, 114, 114, 111, 114] := List.mem_filter.2 ⟨List.mem_range.2 (by rw [<- ntypes]; exact e3), e4⟩
 rw [oneRow] at hm
 obtain rfl := List.mem_singleton.1 hm
 have hh : typeHandle tP 26 = pT (some ⟨12, 26, none⟩) := by kernel_rfl
 rw [hh] at e5
 unfold zLf
 simpa using World.var?_cell et e5 0
end Go.Proofs.YtbimlalhodibjaaGreatDoor
