/-
  gatehousekeep.AsmBack: true at whatever list and text; the world below is as it was. Conditions: the tables lie in memory, the library's two errors are errors.
-/
import Derived.Test.YtegeiicginpdbaaGreatDoorBackLaw
namespace Go.Proofs.YtegeiicginpdbaaGreatDoor
open Go.ChangeShapes Go.WideShapes Go.ChangeAt Go.RowKit
set_option linter.unusedVariables false
variable {ex : Ext}

set_option maxRecDepth 100000 in
set_option maxHeartbeats 4000000 in
theorem back_ln {Cp Dp Sp Op Np : Nat → Int} {Rp : Nat → Bool} (bk off len cap : Nat) (T1 : ByteArray) (s : ByteArray) (hs : s.size ≤ 1500) (w : World) (hT : Tabs ex w) (hroom : 14 ≤ w.heap.size) (hlen : len ≤ 300) (HF : ∀ W : World, Tabs ex W → Calls Tryz.prog 12 #[] W fun e W' => e = .returned (.bool true) ∧ Below W.heap.size W W') (hst : StepsAt w bk off len Cp Dp Sp Rp Op Np) (hbk : bk < w.heap.size) (HW1 : ∀ W : World, ∀ g o cap : Nat, StepsAt W g o len Cp Dp Sp Rp Op Np → g < W.heap.size → Tabs ex W → Calls Tryz.prog 13 #[.slice (some ⟨g, o, none⟩) len cap] W fun e W' => e = .returned (.tuple #[.string T1, .nilIface]) ∧ Below W.heap.size W W') (HR1 : ∀ W : World, Tabs ex W → Calls Tryz.prog 9 #[.string T1] W fun e W' => ∃ g cap, e = .returned (.tuple #[.slice (some ⟨g, 0, none⟩) len cap, .nilIface]) ∧ Below W.heap.size W W' ∧ g < W'.heap.size ∧ StepsAt W' g 0 len Cp Dp Sp Rp Op Np) (HS1 : ∀ W : World, ∀ ga oa ca gb ob cb : Nat, StepsAt W ga oa len Cp Dp Sp Rp Op Np → StepsAt W gb ob len Cp Dp Sp Rp Op Np → ga < W.heap.size → gb < W.heap.size → Calls Tryz.prog 14 #[.slice (some ⟨ga, oa, none⟩) len ca, .slice (some ⟨gb, ob, none⟩) len cb] W fun e W' => e = .returned (.bool true) ∧ Below W.heap.size W W') (HB : ∀ W : World, Tabs ex W → Calls Tryz.prog 9 #[.string s] W fun e W' => (∃ ty v, e = .returned (.tuple #[.slice none 0 0, .iface ty v])) ∧ Below W.heap.size W W') :
    Calls Tryz.prog 4 #[.slice (some ⟨bk, off, none⟩) len cap, .string s] w fun e w' => e = .returned (.bool true) ∧ Below w.heap.size w w' := by
  have x1 : decide (300 < (len : Int)) = false := by simp; omega
  have x2 : decide (1500 < (s.size : Int)) = false := by simp; omega
  go_enter Tryz.func4, Tryz.ntmps4
  go_wp2_with (first
    | (go_at_call 12; refine (HF _ hT).mono ?_; rintro e w1 ⟨rfl, hb1'⟩)
    | (go_at_call_of 13 (Value.slice (some ⟨bk, off, none⟩) len cap); refine (HW1 _ _ _ _ (hst.later hb1' hbk) (Nat.lt_of_lt_of_le hbk hb1'.size) (hT.on hb1' hroom)).mono ?_; rintro e w2 ⟨rfl, hb2⟩; have hb2' := hb1'.trans (hb2.mono hb1'.size))
    | (go_at_call_of 9 (Value.string T1); refine (HR1 _ (hT.on hb2' hroom)).mono ?_; rintro e w3 ⟨g3, cap3, rfl, hb3, hg3, hs3⟩; have hb3' := hb2'.trans (hb3.mono hb2'.size))
    | (go_at_call_of 14 (Value.slice (some ⟨g3, 0, none⟩) len cap3); refine (HS1 _ _ _ _ _ _ _ hs3 (hst.later hb3' hbk) hg3 (Nat.lt_of_lt_of_le hbk hb3'.size)).mono ?_; rintro e w4 ⟨rfl, hb4⟩; have hb4' := hb3'.trans (hb4.mono hb3'.size))
    | (go_at_call_of 9 (Value.string s); refine (HB _ (hT.on hb4' hroom)).mono ?_; rintro e w8 ⟨⟨ty5, v5, rfl⟩, hb8⟩; have hb8' := hb4'.trans (hb8.mono hb4'.size))
    | go_in)
  go_ret
  exact ⟨rfl, hb8'⟩
set_option maxRecDepth 100000 in
set_option maxHeartbeats 4000000 in
theorem back_nt {Cq Dq Sq Oq Nq : Nat → Int} {Rq : Nat → Bool} (n : Nat) (T2 : ByteArray) (a : Option Addr) (len cap : Nat) (s : ByteArray) (hs : s.size ≤ 1500) (w : World) (hT : Tabs ex w) (hroom : 14 ≤ w.heap.size) (hlen : len ≤ 300) (HF : ∀ W : World, Tabs ex W → Calls Tryz.prog 12 #[] W fun e W' => e = .returned (.bool true) ∧ Below W.heap.size W W') (HL : ∀ W, Below w.heap.size w W → Calls Tryz.prog 13 #[.slice a len cap] W fun e W' => (∃ ty v, e = .returned (.tuple #[.string ⟨#[]⟩, .iface ty v])) ∧ Below W.heap.size W W') (HR0 : ∀ W : World, Tabs ex W → Calls Tryz.prog 9 #[.string s] W fun e W' => ∃ g cap, e = .returned (.tuple #[.slice (some ⟨g, 0, none⟩) n cap, .nilIface]) ∧ Below W.heap.size W W' ∧ g < W'.heap.size ∧ StepsAt W' g 0 n Cq Dq Sq Rq Oq Nq) (HW2 : ∀ W : World, ∀ g o cap : Nat, StepsAt W g o n Cq Dq Sq Rq Oq Nq → g < W.heap.size → Tabs ex W → Calls Tryz.prog 13 #[.slice (some ⟨g, o, none⟩) n cap] W fun e W' => e = .returned (.tuple #[.string T2, .nilIface]) ∧ Below W.heap.size W W') (HR2 : ∀ W : World, Tabs ex W → Calls Tryz.prog 9 #[.string T2] W fun e W' => ∃ g cap, e = .returned (.tuple #[.slice (some ⟨g, 0, none⟩) n cap, .nilIface]) ∧ Below W.heap.size W W' ∧ g < W'.heap.size ∧ StepsAt W' g 0 n Cq Dq Sq Rq Oq Nq) (HS2 : ∀ W : World, ∀ ga oa ca gb ob cb : Nat, StepsAt W ga oa n Cq Dq Sq Rq Oq Nq → StepsAt W gb ob n Cq Dq Sq Rq Oq Nq → ga < W.heap.size → gb < W.heap.size → Calls Tryz.prog 14 #[.slice (some ⟨ga, oa, none⟩) n ca, .slice (some ⟨gb, ob, none⟩) n cb] W fun e W' => e = .returned (.bool true) ∧ Below W.heap.size W W') :
    Calls Tryz.prog 4 #[.slice a len cap, .string s] w fun e w' => e = .returned (.bool true) ∧ Below w.heap.size w w' := by
  have x1 : decide (300 < (len : Int)) = false := by simp; omega
  have x2 : decide (1500 < (s.size : Int)) = false := by simp; omega
  go_enter Tryz.func4, Tryz.ntmps4
  go_wp2_with (first
    | (go_at_call 12; refine (HF _ hT).mono ?_; rintro e w1 ⟨rfl, hb1'⟩)
    | (go_at_call_of 13 (Value.slice a len cap); refine (HL _ hb1').mono ?_; rintro e w4 ⟨⟨ty, v, rfl⟩, hb4⟩; have hb4' := hb1'.trans (hb4.mono hb1'.size))
    | (go_at_call_of 9 (Value.string s); refine (HR0 _ (hT.on hb4' hroom)).mono ?_; rintro e w5 ⟨g5, cap5, rfl, hb5, hg5, hs5⟩; have hb5' := hb4'.trans (hb5.mono hb4'.size))
    | (go_at_call_of 13 (Value.slice (some ⟨g5, 0, none⟩) n cap5); refine (HW2 _ _ _ _ hs5 hg5 (hT.on hb5' hroom)).mono ?_; rintro e w6 ⟨rfl, hb6⟩; have hb6' := hb5'.trans (hb6.mono hb5'.size))
    | (go_at_call_of 9 (Value.string T2); refine (HR2 _ (hT.on hb6' hroom)).mono ?_; rintro e w7 ⟨g7, cap7, rfl, hb7, hg7, hs7⟩; have hb67 := hb6.trans (hb7.mono hb6.size); have hb7' := hb6'.trans (hb7.mono hb6'.size))
    | (go_at_call_of 14 (Value.slice (some ⟨g7, 0, none⟩) n cap7); refine (HS2 _ _ _ _ _ _ _ hs7 (hs5.later hb67 hg5) hg7 (Nat.lt_of_lt_of_le hg5 hb67.size)).mono ?_; rintro e w8 ⟨rfl, hb8⟩; have hb8' := hb7'.trans (hb8.mono hb7'.size))
    | go_in)
  go_ret
  exact ⟨rfl, hb8'⟩
set_option maxRecDepth 100000 in
set_option maxHeartbeats 4000000 in
theorem back_lt {Cp Dp Sp Op Np : Nat → Int} {Rp : Nat → Bool} {Cq Dq Sq Oq Nq : Nat → Int} {Rq : Nat → Bool} (n : Nat) (T2 : ByteArray) (bk off len cap : Nat) (T1 : ByteArray) (s : ByteArray) (hs : s.size ≤ 1500) (w : World) (hT : Tabs ex w) (hroom : 14 ≤ w.heap.size) (hlen : len ≤ 300) (HF : ∀ W : World, Tabs ex W → Calls Tryz.prog 12 #[] W fun e W' => e = .returned (.bool true) ∧ Below W.heap.size W W') (hst : StepsAt w bk off len Cp Dp Sp Rp Op Np) (hbk : bk < w.heap.size) (HW1 : ∀ W : World, ∀ g o cap : Nat, StepsAt W g o len Cp Dp Sp Rp Op Np → g < W.heap.size → Tabs ex W → Calls Tryz.prog 13 #[.slice (some ⟨g, o, none⟩) len cap] W fun e W' => e = .returned (.tuple #[.string T1, .nilIface]) ∧ Below W.heap.size W W') (HR1 : ∀ W : World, Tabs ex W → Calls Tryz.prog 9 #[.string T1] W fun e W' => ∃ g cap, e = .returned (.tuple #[.slice (some ⟨g, 0, none⟩) len cap, .nilIface]) ∧ Below W.heap.size W W' ∧ g < W'.heap.size ∧ StepsAt W' g 0 len Cp Dp Sp Rp Op Np) (HS1 : ∀ W : World, ∀ ga oa ca gb ob cb : Nat, StepsAt W ga oa len Cp Dp Sp Rp Op Np → StepsAt W gb ob len Cp Dp Sp Rp Op Np → ga < W.heap.size → gb < W.heap.size → Calls Tryz.prog 14 #[.slice (some ⟨ga, oa, none⟩) len ca, .slice (some ⟨gb, ob, none⟩) len cb] W fun e W' => e = .returned (.bool true) ∧ Below W.heap.size W W') (HR0 : ∀ W : World, Tabs ex W → Calls Tryz.prog 9 #[.string s] W fun e W' => ∃ g cap, e = .returned (.tuple #[.slice (some ⟨g, 0, none⟩) n cap, .nilIface]) ∧ Below W.heap.size W W' ∧ g < W'.heap.size ∧ StepsAt W' g 0 n Cq Dq Sq Rq Oq Nq) (HW2 : ∀ W : World, ∀ g o cap : Nat, StepsAt W g o n Cq Dq Sq Rq Oq Nq → g < W.heap.size → Tabs ex W → Calls Tryz.prog 13 #[.slice (some ⟨g, o, none⟩) n cap] W fun e W' => e = .returned (.tuple #[.string T2, .nilIface]) ∧ Below W.heap.size W W') (HR2 : ∀ W : World, Tabs ex W → Calls Tryz.prog 9 #[.string T2] W fun e W' => ∃ g cap, e = .returned (.tuple #[.slice (some ⟨g, 0, none⟩) n cap, .nilIface]) ∧ Below W.heap.size W W' ∧ g < W'.heap.size ∧ StepsAt W' g 0 n Cq Dq Sq Rq Oq Nq) (HS2 : ∀ W : World, ∀ ga oa ca gb ob cb : Nat, StepsAt W ga oa n Cq Dq Sq Rq Oq Nq → StepsAt W gb ob n Cq Dq Sq Rq Oq Nq → ga < W.heap.size → gb < W.heap.size → Calls Tryz.prog 14 #[.slice (some ⟨ga, oa, none⟩) n ca, .slice (some ⟨gb, ob, none⟩) n cb] W fun e W' => e = .returned (.bool true) ∧ Below W.heap.size W W') :
    Calls Tryz.prog 4 #[.slice (some ⟨bk, off, none⟩) len cap, .string s] w fun e w' => e = .returned (.bool true) ∧ Below w.heap.size w w' := by
  have x1 : decide (300 < (len : Int)) = false := by simp; omega
  have x2 : decide (1500 < (s.size : Int)) = false := by simp; omega
  go_enter Tryz.func4, Tryz.ntmps4
  go_wp2_with (first
    | (go_at_call 12; refine (HF _ hT).mono ?_; rintro e w1 ⟨rfl, hb1'⟩)
    | (go_at_call_of 13 (Value.slice (some ⟨bk, off, none⟩) len cap); refine (HW1 _ _ _ _ (hst.later hb1' hbk) (Nat.lt_of_lt_of_le hbk hb1'.size) (hT.on hb1' hroom)).mono ?_; rintro e w2 ⟨rfl, hb2⟩; have hb2' := hb1'.trans (hb2.mono hb1'.size))
    | (go_at_call_of 9 (Value.string T1); refine (HR1 _ (hT.on hb2' hroom)).mono ?_; rintro e w3 ⟨g3, cap3, rfl, hb3, hg3, hs3⟩; have hb3' := hb2'.trans (hb3.mono hb2'.size))
    | (go_at_call_of 14 (Value.slice (some ⟨g3, 0, none⟩) len cap3); refine (HS1 _ _ _ _ _ _ _ hs3 (hst.later hb3' hbk) hg3 (Nat.lt_of_lt_of_le hbk hb3'.size)).mono ?_; rintro e w4 ⟨rfl, hb4⟩; have hb4' := hb3'.trans (hb4.mono hb3'.size))
    | (go_at_call_of 9 (Value.string s); refine (HR0 _ (hT.on hb4' hroom)).mono ?_; rintro e w5 ⟨g5, cap5, rfl, hb5, hg5, hs5⟩; have hb5' := hb4'.trans (hb5.mono hb4'.size))
    | (go_at_call_of 13 (Value.slice (some ⟨g5, 0, none⟩) n cap5); refine (HW2 _ _ _ _ hs5 hg5 (hT.on hb5' hroom)).mono ?_; rintro e w6 ⟨rfl, hb6⟩; have hb6' := hb5'.trans (hb6.mono hb5'.size))
    | (go_at_call_of 9 (Value.string T2); refine (HR2 _ (hT.on hb6' hroom)).mono ?_; rintro e w7 ⟨g7, cap7, rfl, hb7, hg7, hs7⟩; have hb67 := hb6.trans (hb7.mono hb6.size); have hb7' := hb6'.trans (hb7.mono hb6'.size))
    | (go_at_call_of 14 (Value.slice (some ⟨g7, 0, none⟩) n cap7); refine (HS2 _ _ _ _ _ _ _ hs7 (hs5.later hb67 hg5) hg7 (Nat.lt_of_lt_of_le hg5 hb67.size)).mono ?_; rintro e w8 ⟨rfl, hb8⟩; have hb8' := hb7'.trans (hb8.mono hb7'.size))
    | go_in)
  go_ret
  exact ⟨rfl, hb8'⟩
end Go.Proofs.YtegeiicginpdbaaGreatDoor
