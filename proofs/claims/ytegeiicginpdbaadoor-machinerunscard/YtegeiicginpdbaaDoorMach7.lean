/-
  What a call leaves, of a program that runs: registers that are lost, numbers that are given out, what is answered. Conditions: numbers are of 64 bits.
-/
import Derived.Test.YtegeiicginpdbaaDoorMachMem
import Derived.Laws.IdiomCopy
namespace Go.Proofs.YtegeiicginpdbaaDoor
open Go.ChangeShapes Go.WideShapes Go.ChangeAt Go.RowKit
attribute [local simp] drew_size drewN_size setCell_size
def Mac.lose (m : Mac) : Mac := { m with reg := fun i => if 1 ≤ i ∧ i ≤ 5 then none0 else m.reg i }
theorem Mac.lose_put (m : Mac) : m.lose = ((((m.putReg 1 none0).putReg 2 none0).putReg 3 none0).putReg 4 none0).putReg 5 none0 := by
  unfold Mac.lose Mac.putReg
  congr 1
  funext i
  by_cases h : 1 ≤ i ∧ i ≤ 5
  · rw [if_pos h]
    rcases (show i = 1 ∨ i = 2 ∨ i = 3 ∨ i = 4 ∨ i = 5 by omega) with rfl | rfl | rfl | rfl | rfl <;> rfl
  · rw [if_neg h]
    show _ = if i = 5 then none0 else if i = 4 then none0 else if i = 3 then none0 else if i = 2 then none0 else if i = 1 then none0 else m.reg i
    rw [if_neg (by omega), if_neg (by omega), if_neg (by omega), if_neg (by omega), if_neg (by omega)]
theorem clear_run {w : World} {B : Nat} {m : Mac} (hM : MacAt w B m) : ∃ w', (Builtin.clear_ #[181] 0 #[.slice (some ⟨B, 5, none⟩) 5 10]).run Tryd.prog w = .ok (.tuple #[]) w' ∧ Kept B w w' ∧ MacAt w' B m.lose := by
  have hst := run_storeCells_cells (P := Tryd.prog) B 5 (List.replicate 15 (.int .i64 0)) 0 w (by
    intro j hj
    rw [List.length_replicate] at hj
    rw [hM.at _ (by omega)]; rfl) (by intro j hj; exact hM.frozen _) (by intro v hv'; rw [List.eq_of_mem_replicate hv']; rfl)
  simp only [Nat.add_zero] at hst
  have hzc : (Builtin.zeroCells (Value.agg #[.int .i64 0, .int .i64 0, .int .i64 0]).cells 5).toList = List.replicate 15 (.int .i64 0) := by first | rfl | kernel_rfl | (simp [Builtin.zeroCells]; rfl)
  refine ⟨w.setCells B 5 (List.replicate 15 (.int .i64 0)), ?_, ?_, ?_⟩
  · generalize List.replicate 15 (Value.int .i64 0) = zs at hst hzc ⊢
    simp [Builtin.clear_, run_underlying Tryd.underlying181, hzc, hst]
  · show Kept B w (((((((((((((((w.setCell ⟨B, 5, none⟩ _).setCell ⟨B, 6, none⟩ _).setCell ⟨B, 7, none⟩ _).setCell ⟨B, 8, none⟩ _).setCell ⟨B, 9, none⟩ _).setCell ⟨B, 10, none⟩ _).setCell ⟨B, 11, none⟩ _).setCell ⟨B, 12, none⟩ _).setCell ⟨B, 13, none⟩ _).setCell ⟨B, 14, none⟩ _).setCell ⟨B, 15, none⟩ _).setCell ⟨B, 16, none⟩ _).setCell ⟨B, 17, none⟩ _).setCell ⟨B, 18, none⟩ _).setCell ⟨B, 19, none⟩ _)
    repeat with_reducible refine kept_set ?_ _ _
    exact kept_refl B w
  · rw [m.lose_put]
    exact ((((hM.put3 (d := 1) (by decide) 0 0 0).put3 (d := 2) (by decide) 0 0 0).put3 (d := 3) (by decide) 0 0 0).put3 (d := 4) (by decide) 0 0 0).put3 (d := 5) (by decide) 0 0 0
theorem Tryd.infoI : (Tryd.prog.info? 2).map (fun i => (i.zero, i.size, i.bytes)) = some (some (.int .i64 0), 1, 8) := by kernel_rfl
theorem cell_one {w : World} {x : Value} {e : TypeId} {b : Nat} (hb : b = w.heap.size) : ∀ (j : Nat) u, [x][j]? = some u → (w.alloc (.cells #[x] e)).cell? ((⟨b, 0, none⟩ : Addr).add j) = some u := by
  subst hb
  intro j u hj
  match j, hj with
  | 0, hj => simp at hj; subst hj; simp [Addr.add]
theorem OutAt.shape {w : World} {B : Nat} {v : Value} {L : List Int} (h : OutAt w B v L) : ∃ a cap, v = .slice a L.length cap := by
  rcases h.2 with ⟨hv, hn⟩ | ⟨g, cap, _, hv, _⟩
  · exact ⟨none, 0, by rw [hv, hn]⟩
  · exact ⟨some ⟨g, 0, none⟩, cap, hv⟩
theorem own_above {w : World} {B : Nat} {e : TypeId} {z : Nat} {v : Value} {n : Nat} {xs : List Value} (h : w.ownsRow (B + 1) e z v n xs) : some B ≠ v.ownBlock := by
  intro hh
  have := h.lt B hh.symm
  omega
def giveL (L : List Int) (n : Int) : List Int := if L.length < 50 then L ++ [n] else L
set_option maxHeartbeats 4000000 in
set_option maxRecDepth 100000 in
theorem give_any (B : Nat) (n : Int) (m : Mac) (L : List Int) (w : World) (hM : MacAt w B m) (hO : OutAt w B m.out L) :
    Calls Tryd.prog 120 #[.pointer (some ⟨B, 0, none⟩), .int .i64 n] w fun e w' => e = .returned (.tuple #[]) ∧ Below B w w' ∧ ∃ v', MacAt w' B (m.setOut v') ∧ OutAt w' B v' (giveL L n) := by
  have hB := hM.lt
  have h0 := hM.outv
  obtain ⟨a, cap, hv⟩ := hO.shape
  have hO' := hO
  rw [hv] at h0 hO'
  have HV : Hid (m.out = .slice a L.length cap) := hv
  have hg : giveL L n = if L.length < 50 then L ++ [n] else L := rfl
  by_cases hk : L.length < 50
  · rw [if_pos hk] at hg
    have HG : Hid (giveL L n = L ++ [n]) := hg
    have HO : Hid (w.ownsRow (B + 1) 2 1 (.slice a L.length cap) L.length (L.map (Value.int .i64))) := hO'
    have HL : Hid (L.length < 50) := hk
    have hk0 : decide ((L.length : Int) < 50) = true := by simp; omega
    clear hv hg hO' hO hk
    obtain ⟨i0, hi, hz0, hz1, hz2⟩ := info_parts Tryd.infoI
    generalize HN : L.length = k at h0 hk0
    have HN' : Hid (L.length = k) := HN
    clear HN
    go_enter Tryd.func120, Tryd.ntmps120
    go_wp2_with (at_builtin; refine wpList_append_own _ rfl (.tmp 14) (.tmp 16) 62 rfl (B + 1) 2 i0 (.int .i64 0) 1 8 Tryd.underlying62 hi hz0 hz1 hz2 rfl (by decide) (.slice a k cap) k (L.map (Value.int .i64)) rfl (by have := HO.out; rw [HN'.out] at this; exact this.alloc _) ⟨w.heap.size, 0, none⟩ 1 1 [.int .i64 n] rfl rfl (cell_one rfl) (by intro u hu; simp at hu; subst hu; rfl) (by have := HL.out; have := HN'.out; unfold maxLen; omega) (by have := HL.out; have := HN'.out; omega) (by simp; omega) ?_; intro v5 w5 hown5 hgrow5 _; have hM5 : MacAt w5 B m := (hgrow5.block B (by simp; omega) (by have := HO.out; rw [HN'.out] at this; exact own_above this)).trans (hM.alloc _); have hB5 := hM5.lt; have k0 := hM5.outv; have f0 := hM5.frozen 108; obtain ⟨g5, cp5, hv5⟩ : ∃ g5 cp5, v5 = .slice (some ⟨g5, 0, none⟩) (k + 1) cp5 := (by rcases hown5.2 with ⟨_, h⟩ | ⟨g, cap', _, h, _⟩; (omega); (exact ⟨g, cap', h⟩)); subst hv5)
    go_end0
    refine ⟨rfl, ?_, .slice (some ⟨g5, 0, none⟩) (k + 1) cp5, hM5.putOut _, ?_⟩
    · have hr : B ≤ (⟨B, 108, none⟩ : Addr).block := Nat.le_refl _
      refine Below.setCell ?_ hr _
      exact ((Below.refl _ _).alloc (by omega) _).grown hgrow5 (by simp; omega) (fun j hj => by
        have := HO.out
        rw [HN'.out] at this
        have := this.lt j hj
        omega)
    · rw [HG.out]
      unfold OutAt
      rw [List.length_append, HN'.out, List.map_append]
      exact ownsRow_setCell_below hown5 (Nat.lt_succ_self B) _
  · rw [if_neg hk] at hg
    have hk0 : decide ((L.length : Int) < 50) = false := by simp; omega
    have HG : Hid (giveL L n = L) := hg
    have HO : Hid (OutAt w B m.out L) := hO
    clear hv hg hO' hO hk
    go_enter Tryd.func120, Tryd.ntmps120
    go_wp2
    go_end0
    exact ⟨rfl, Below.refl _ _, m.out, hM, by rw [HG.out]; exact HO.out⟩
end Go.Proofs.YtegeiicginpdbaaDoor
