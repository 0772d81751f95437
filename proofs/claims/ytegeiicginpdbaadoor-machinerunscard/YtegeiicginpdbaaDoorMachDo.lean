/-
  What package machine's do does to a program that runs: by the plain machine. Conditions: the step is a right one; numbers are of 64 bits.
-/
import Derived.Test.YtegeiicginpdbaaDoorMachRes
namespace Go.Proofs.YtegeiicginpdbaaDoor
open Go.ChangeShapes Go.WideShapes Go.ChangeAt Go.RowKit
attribute [local simp] drew_size drewN_size setCell_size
theorem under_of {w w1 : World} {Z : Obj} (h : Below (w.alloc Z).heap.size (w.alloc Z) w1) : Below w.heap.size w w1 :=
  ((Below.refl _ _).alloc (Nat.le_refl _) _).trans (h.mono (by simp))
set_option maxHeartbeats 4000000 in
set_option maxRecDepth 100000 in
theorem do_ask (B d s : Nat) (c o n : Int) (r : Bool) (m : Mac) (L : List Int) (hd : d < 11) (hs : s < 11) (w : World) (hM : MacAt w B m) (hO : OutAt w B m.out L) (h1 : 15 ≤ c) (h2 : c ≤ 24) :
    Calls Tryd.prog 86 #[.pointer (some ⟨B, 0, none⟩), .agg #[.int .i64 c, .int .i64 d, .int .i64 s, .bool r, .int .i64 o, .int .i64 n]] w fun e w' => e = .returned (.tuple #[.int .i64 (askF c (m.reg d) (m.second s r n) r o n).1, .int .i64 (askF c (m.reg d) (m.second s r n) r o n).2]) ∧ Below w.heap.size w w' := by
  have hM0 := hM.alloc (.cells #[.int .i64 c, .int .i64 d, .int .i64 s, .bool r, .int .i64 o, .int .i64 n] 75)
  have hO0 : OutAt (w.alloc (.cells #[.int .i64 c, .int .i64 d, .int .i64 s, .bool r, .int .i64 o, .int .i64 n] 75)) B m.out L := hO.kept (kept_alloc (kept_refl B w) _)
  have HO : Hid (OutAt w B m.out L) := hO
  have HO0 : Hid (OutAt _ B m.out L) := hO0
  clear hO hO0
  have HQ : Hid ((decide (15 ≤ c) && decide (c ≤ 24)) = true) := by show (decide (15 ≤ c) && decide (c ≤ 24)) = true; simp; omega
  rcases hA : askF c (m.reg d) (m.second s r n) r o n with ⟨X, Y⟩
  have HA : Hid (askF c (m.reg d) (m.second s r n) r o n = (X, Y)) := hA
  clear hA h1 h2
  go_enter Tryd.func86, Tryd.ntmps86
  go_wp2_with (first
    | (go_at_call 90; refine (asks_any c _).mono ?_; rintro e w1 ⟨rfl, rfl⟩; rw [HQ.out])
    | (go_at_call 100; refine (ask_all hd hs hM0).mono ?_; rintro e w2 ⟨rfl, hb2⟩; rw [HA.out])
    | fail)
  go_ret2
  exact ⟨rfl, under_of hb2⟩
set_option maxHeartbeats 4000000 in
set_option maxRecDepth 100000 in
theorem do_jump (B d s : Nat) (c o n : Int) (r : Bool) (m : Mac) (L : List Int) (_ : d < 11) (_ : s < 11) (w : World) (hM : MacAt w B m) (hO : OutAt w B m.out L) (h1 : c = 14) :
    Calls Tryd.prog 86 #[.pointer (some ⟨B, 0, none⟩), .agg #[.int .i64 c, .int .i64 d, .int .i64 s, .bool r, .int .i64 o, .int .i64 n]] w fun e w' => e = .returned (.tuple #[.int .i64 o, .int .i64 0]) ∧ Below w.heap.size w w' := by
  have hM0 := hM.alloc (.cells #[.int .i64 c, .int .i64 d, .int .i64 s, .bool r, .int .i64 o, .int .i64 n] 75)
  have hO0 : OutAt (w.alloc (.cells #[.int .i64 c, .int .i64 d, .int .i64 s, .bool r, .int .i64 o, .int .i64 n] 75)) B m.out L := hO.kept (kept_alloc (kept_refl B w) _)
  have HO : Hid (OutAt w B m.out L) := hO
  have HO0 : Hid (OutAt _ B m.out L) := hO0
  clear hO hO0
  have HQ : Hid ((decide (15 ≤ c) && decide (c ≤ 24)) = false) := by show (decide (15 ≤ c) && decide (c ≤ 24)) = false; simp; omega
  have x14 : (c == 14) = true := by simp; omega
  clear h1
  go_enter Tryd.func86, Tryd.ntmps86
  go_wp2_with (first
    | (go_at_call 90; refine (asks_any c _).mono ?_; rintro e w1 ⟨rfl, rfl⟩; rw [HQ.out])
    | fail)
  go_ret2
  exact ⟨rfl, (Below.refl _ _).alloc (Nat.le_refl _) _⟩
set_option maxHeartbeats 4000000 in
set_option maxRecDepth 100000 in
theorem do_load (B d s : Nat) (c o n : Int) (r : Bool) (m : Mac) (L : List Int) (hd : d < 11) (hs : s < 11) (w : World) (hM : MacAt w B m) (hO : OutAt w B m.out L) (hok : (m.abs L).Ok) (h1 : c = 25) :
    Calls Tryd.prog 86 #[.pointer (some ⟨B, 0, none⟩), .agg #[.int .i64 c, .int .i64 d, .int .i64 s, .bool r, .int .i64 o, .int .i64 n]] w fun e w' => e = .returned (.tuple #[.int .i64 0, .int .i64 (loadF (m.abs L) d (m.reg s) o).1]) ∧ Res B w w' m (loadF (m.abs L) d (m.reg s) o).1 (loadF (m.abs L) d (m.reg s) o).2 := by
  have hM0 := hM.alloc (.cells #[.int .i64 c, .int .i64 d, .int .i64 s, .bool r, .int .i64 o, .int .i64 n] 75)
  have hO0 : OutAt (w.alloc (.cells #[.int .i64 c, .int .i64 d, .int .i64 s, .bool r, .int .i64 o, .int .i64 n] 75)) B m.out L := hO.kept (kept_alloc (kept_refl B w) _)
  have HO : Hid (OutAt w B m.out L) := hO
  have HO0 : Hid (OutAt _ B m.out L) := hO0
  clear hO hO0
  have HQ : Hid ((decide (15 ≤ c) && decide (c ≤ 24)) = false) := by show (decide (15 ≤ c) && decide (c ≤ 24)) = false; simp; omega
  have x14 : (c == 14) = false := by simp; omega
  have x25 : (c == 25) = true := by simp; omega
  clear h1
  obtain ⟨E, hE⟩ : ∃ E, (loadF (m.abs L) d (m.reg s) o).1 = E := ⟨_, rfl⟩
  have HE : Hid ((loadF (m.abs L) d (m.reg s) o).1 = E) := hE
  clear hE
  go_enter Tryd.func86, Tryd.ntmps86
  go_wp2_with (first
    | (go_at_call 90; refine (asks_any c _).mono ?_; rintro e w1 ⟨rfl, rfl⟩; rw [HQ.out])
    | (go_at_call 101; refine (load_all hd hs hM0 HO0.out hok).mono ?_; rintro e w2 ⟨rfl, hr2⟩; have HR2 : Hid (Res B _ w2 m (loadF (m.abs L) d (m.reg s) o).1 (loadF (m.abs L) d (m.reg s) o).2) := hr2; clear hr2; rw [HE.out])
    | fail)
  go_ret2
  exact ⟨by rw [HE.out]; rfl, ((Below.refl _ _).alloc (by have := hM.lt; omega) _).trans HR2.out.1, HR2.out.2⟩
set_option maxHeartbeats 4000000 in
set_option maxRecDepth 100000 in
theorem do_store (B d s : Nat) (c o n : Int) (r : Bool) (m : Mac) (L : List Int) (hd : d < 11) (hs : s < 11) (w : World) (hM : MacAt w B m) (hO : OutAt w B m.out L) (hok : (m.abs L).Ok) (h1 : c = 26) :
    Calls Tryd.prog 86 #[.pointer (some ⟨B, 0, none⟩), .agg #[.int .i64 c, .int .i64 d, .int .i64 s, .bool r, .int .i64 o, .int .i64 n]] w fun e w' => e = .returned (.tuple #[.int .i64 0, .int .i64 (storeF (m.abs L) (m.reg d) (m.second s r n) o).1]) ∧ Res B w w' m (storeF (m.abs L) (m.reg d) (m.second s r n) o).1 (storeF (m.abs L) (m.reg d) (m.second s r n) o).2 := by
  have hM0 := hM.alloc (.cells #[.int .i64 c, .int .i64 d, .int .i64 s, .bool r, .int .i64 o, .int .i64 n] 75)
  have hO0 : OutAt (w.alloc (.cells #[.int .i64 c, .int .i64 d, .int .i64 s, .bool r, .int .i64 o, .int .i64 n] 75)) B m.out L := hO.kept (kept_alloc (kept_refl B w) _)
  have HO : Hid (OutAt w B m.out L) := hO
  have HO0 : Hid (OutAt _ B m.out L) := hO0
  clear hO hO0
  have HQ : Hid ((decide (15 ≤ c) && decide (c ≤ 24)) = false) := by show (decide (15 ≤ c) && decide (c ≤ 24)) = false; simp; omega
  have x14 : (c == 14) = false := by simp; omega
  have x25 : (c == 25) = false := by simp; omega
  have x26 : (c == 26) = true := by simp; omega
  clear h1
  obtain ⟨E, hE⟩ : ∃ E, (storeF (m.abs L) (m.reg d) (m.second s r n) o).1 = E := ⟨_, rfl⟩
  have HE : Hid ((storeF (m.abs L) (m.reg d) (m.second s r n) o).1 = E) := hE
  clear hE
  go_enter Tryd.func86, Tryd.ntmps86
  go_wp2_with (first
    | (go_at_call 90; refine (asks_any c _).mono ?_; rintro e w1 ⟨rfl, rfl⟩; rw [HQ.out])
    | (go_at_call 102; refine (store_all hd hs hM0 HO0.out hok).mono ?_; rintro e w2 ⟨rfl, hr2⟩; have HR2 : Hid (Res B _ w2 m (storeF (m.abs L) (m.reg d) (m.second s r n) o).1 (storeF (m.abs L) (m.reg d) (m.second s r n) o).2) := hr2; clear hr2; rw [HE.out])
    | fail)
  go_ret2
  exact ⟨by rw [HE.out]; rfl, ((Below.refl _ _).alloc (by have := hM.lt; omega) _).trans HR2.out.1, HR2.out.2⟩
set_option maxHeartbeats 4000000 in
set_option maxRecDepth 100000 in
theorem do_call (B d s : Nat) (c o n : Int) (r : Bool) (m : Mac) (L : List Int) (_ : d < 11) (_ : s < 11) (w : World) (hM : MacAt w B m) (hO : OutAt w B m.out L) (_ : (m.abs L).Ok) (HN : Hid (n = 1 ∨ n = 2 ∨ n = 3)) (h1 : c = 27) :
    Calls Tryd.prog 86 #[.pointer (some ⟨B, 0, none⟩), .agg #[.int .i64 c, .int .i64 d, .int .i64 s, .bool r, .int .i64 o, .int .i64 n]] w fun e w' => e = .returned (.tuple #[.int .i64 0, .int .i64 (callF (m.abs L) n).1]) ∧ Res B w w' m (callF (m.abs L) n).1 (callF (m.abs L) n).2 := by
  have hM0 := hM.alloc (.cells #[.int .i64 c, .int .i64 d, .int .i64 s, .bool r, .int .i64 o, .int .i64 n] 75)
  have hO0 : OutAt (w.alloc (.cells #[.int .i64 c, .int .i64 d, .int .i64 s, .bool r, .int .i64 o, .int .i64 n] 75)) B m.out L := hO.kept (kept_alloc (kept_refl B w) _)
  have HO : Hid (OutAt w B m.out L) := hO
  have HO0 : Hid (OutAt _ B m.out L) := hO0
  clear hO hO0
  have HQ : Hid ((decide (15 ≤ c) && decide (c ≤ 24)) = false) := by show (decide (15 ≤ c) && decide (c ≤ 24)) = false; simp; omega
  have x14 : (c == 14) = false := by simp; omega
  have x25 : (c == 25) = false := by simp; omega
  have x26 : (c == 26) = false := by simp; omega
  have x27 : (c == 27) = true := by simp; omega
  clear h1
  obtain ⟨E, hE⟩ : ∃ E, (callF (m.abs L) n).1 = E := ⟨_, rfl⟩
  have HE : Hid ((callF (m.abs L) n).1 = E) := hE
  clear hE
  go_enter Tryd.func86, Tryd.ntmps86
  go_wp2_with (first
    | (go_at_call 90; refine (asks_any c _).mono ?_; rintro e w1 ⟨rfl, rfl⟩; rw [HQ.out])
    | (go_at_call 103; refine (call_all HN.out hM0 HO0.out).mono ?_; rintro e w2 ⟨rfl, hr2⟩; have HR2 : Hid (Res B _ w2 m (callF (m.abs L) n).1 (callF (m.abs L) n).2) := hr2; clear hr2; rw [HE.out])
    | fail)
  go_ret2
  exact ⟨by rw [HE.out]; rfl, ((Below.refl _ _).alloc (by have := hM.lt; omega) _).trans HR2.out.1, HR2.out.2⟩
set_option maxHeartbeats 4000000 in
set_option maxRecDepth 100000 in
theorem do_change (B d s : Nat) (c o n : Int) (r : Bool) (m : Mac) (L : List Int) (hd : d < 11) (hs : s < 11) (w : World) (hM : MacAt w B m) (hO : OutAt w B m.out L) (hok : (m.abs L).Ok) (HN : Hid (In64 n)) (h1 : 1 ≤ c) (h2 : c ≤ 13) :
    Calls Tryd.prog 86 #[.pointer (some ⟨B, 0, none⟩), .agg #[.int .i64 c, .int .i64 d, .int .i64 s, .bool r, .int .i64 o, .int .i64 n]] w fun e w' => e = .returned (.tuple #[.int .i64 0, .int .i64 (makesF c (m.reg d) (m.second s r n)).2]) ∧ Res B w w' m (makesF c (m.reg d) (m.second s r n)).2 ((m.abs L).putReg d (makesF c (m.reg d) (m.second s r n)).1) := by
  have hM0 := hM.alloc (.cells #[.int .i64 c, .int .i64 d, .int .i64 s, .bool r, .int .i64 o, .int .i64 n] 75)
  have hO0 : OutAt (w.alloc (.cells #[.int .i64 c, .int .i64 d, .int .i64 s, .bool r, .int .i64 o, .int .i64 n] 75)) B m.out L := hO.kept (kept_alloc (kept_refl B w) _)
  have HO : Hid (OutAt w B m.out L) := hO
  have HO0 : Hid (OutAt _ B m.out L) := hO0
  clear hO hO0
  have HQ : Hid ((decide (15 ≤ c) && decide (c ≤ 24)) = false) := by show (decide (15 ≤ c) && decide (c ≤ 24)) = false; simp; omega
  have x14 : (c == 14) = false := by simp; omega
  have x25 : (c == 25) = false := by simp; omega
  have x26 : (c == 26) = false := by simp; omega
  have x27 : (c == 27) = false := by simp; omega
  clear h1 h2
  obtain ⟨E, hE⟩ : ∃ E, (makesF c (m.reg d) (m.second s r n)).2 = E := ⟨_, rfl⟩
  have HE : Hid ((makesF c (m.reg d) (m.second s r n)).2 = E) := hE
  clear hE
  go_enter Tryd.func86, Tryd.ntmps86
  go_wp2_with (first
    | (go_at_call 90; refine (asks_any c _).mono ?_; rintro e w1 ⟨rfl, rfl⟩; rw [HQ.out])
    | (go_at_call 104; refine (change_all hd hs HN.out hM0 HO0.out hok).mono ?_; rintro e w2 ⟨rfl, hr2⟩; have HR2 : Hid (Res B _ w2 m (makesF c (m.reg d) (m.second s r n)).2 ((m.abs L).putReg d (makesF c (m.reg d) (m.second s r n)).1)) := hr2; clear hr2; rw [HE.out])
    | fail)
  go_ret2
  exact ⟨by rw [HE.out]; rfl, ((Below.refl _ _).alloc (by have := hM.lt; omega) _).trans HR2.out.1, HR2.out.2⟩
/-- What a step that is no Exit does. -/
theorem do_all (B d s : Nat) (c o n : Int) (r : Bool) (m : Mac) (L : List Int) (hd : d < 11) (hs : s < 11) (w : World) (hM : MacAt w B m) (hO : OutAt w B m.out L) (hok : (m.abs L).Ok) (hn : In64 n) (c1 : 1 ≤ c) (c2 : c ≤ 28) (hc : c ≠ 28) (h27 : c = 27 → n = 1 ∨ n = 2 ∨ n = 3) :
    Calls Tryd.prog 86 #[.pointer (some ⟨B, 0, none⟩), .agg #[.int .i64 c, .int .i64 d, .int .i64 s, .bool r, .int .i64 o, .int .i64 n]] w fun e w' => e = .returned (.tuple #[.int .i64 (doF c d s r o n (m.abs L)).1, .int .i64 (doF c d s r o n (m.abs L)).2.1]) ∧ Res B w w' m (doF c d s r o n (m.abs L)).2.1 (doF c d s r o n (m.abs L)).2.2 := by
  unfold doF
  rw [Int.toNat_natCast, Int.toNat_natCast]
  by_cases h1 : 15 ≤ c ∧ c ≤ 24
  · rw [if_pos h1]
    exact (do_ask B d s c o n r m L hd hs w hM hO h1.1 h1.2).mono fun e w' ⟨he, hb⟩ => ⟨he, Res.of_below hM hO hb fun _ => rfl⟩
  rw [if_neg h1]
  by_cases h2 : c = 14
  · rw [if_pos h2]
    exact (do_jump B d s c o n r m L hd hs w hM hO h2).mono fun e w' ⟨he, hb⟩ => ⟨he, Res.of_below hM hO hb fun _ => rfl⟩
  rw [if_neg h2]
  by_cases h3 : c = 25
  · rw [if_pos h3]
    exact do_load B d s c o n r m L hd hs w hM hO hok h3
  rw [if_neg h3]
  by_cases h4 : c = 26
  · rw [if_pos h4]
    exact do_store B d s c o n r m L hd hs w hM hO hok h4
  rw [if_neg h4]
  by_cases h5 : c = 27
  · rw [if_pos h5]
    exact do_call B d s c o n r m L hd hs w hM hO hok (h27 h5) h5
  rw [if_neg h5]
  exact do_change B d s c o n r m L hd hs w hM hO hok hn c1 (by omega)
end Go.Proofs.YtegeiicginpdbaaDoor
