/-
  What asm.codeOf and callOf return: the number of the name, nought if there is none; the world is as it was. Conditions: the tables lie in memory.
-/
import Derived.Test.YtegeiicginpdbaaGreatDoorLeaf
import Derived.Deep.MidRow
namespace Go.Proofs.YtegeiicginpdbaaGreatDoor
open Go.ChangeShapes Go.WideShapes Go.ChangeAt Go.RowKit
variable {ex : Ext}

def namesV : Array Value := (namesL.map fun b => Value.string ⟨b.toArray⟩).toArray
def callsV : Array Value := (callsL.map fun b => Value.string ⟨b.toArray⟩).toArray
theorem names_at (k : Nat) (h : k < 29) : namesV[k]? = some (.string (nameB k)) := by
  have hl : k < namesL.length := h
  simp [namesV, nameB, List.getD_eq_getElem?_getD, List.getElem?_eq_getElem hl]
theorem calls_at (k : Nat) (h : k < 4) : callsV[k]? = some (.string (callB k)) := by
  have hl : k < callsL.length := h
  simp [callsV, callB, List.getD_eq_getElem?_getD, List.getElem?_eq_getElem hl]
theorem load_names {w : World} (hT : Tabs ex w) : (loadVar 110 ⟨2, 0, none⟩).run Tryz.prog w = .ok (.agg namesV) w := by
  refine run_loadVar_mid w _ 0 _ (namesL.map fun b => Value.string ⟨b.toArray⟩) _ (fun j v hv => ?_) Tryz.underlying110 rfl (by kernel_rfl)
  have hj : j < 29 := by
    have h0 := (List.getElem?_eq_some_iff.1 hv).1
    rw [List.length_map] at h0; exact h0
  have h1 := names_at j hj
  have h2 : namesV[j]? = some v := by simpa [namesV] using hv
  rw [Nat.zero_add, hT.names j hj, ← h1, h2]
theorem load_calls {w : World} (hT : Tabs ex w) : (loadVar 117 ⟨5, 0, none⟩).run Tryz.prog w = .ok (.agg callsV) w := by
  refine run_loadVar_mid w _ 0 _ (callsL.map fun b => Value.string ⟨b.toArray⟩) _ (fun j v hv => ?_) Tryz.underlying117 rfl (by kernel_rfl)
  have hj : j < 4 := by
    have h0 := (List.getElem?_eq_some_iff.1 hv).1
    rw [List.length_map] at h0; exact h0
  have h1 := calls_at j hj
  have h2 : callsV[j]? = some v := by simpa [callsV] using hv
  rw [Nat.zero_add, hT.calls j hj, ← h1, h2]
theorem load_names_list {ops : Array Oper} {rest : List Oper} {d : Option Tmp} {ty : TypeId} {pos : String} {af : _} {a : Act} {w : World} {Q : Exit → Act → World → Prop} (hT : Tabs ex w)
    (h : wpList Tryz.prog ops Q rest (a.put d (.agg namesV)) w) : wpList Tryz.prog ops Q ({ dst := d, op := .load 110 (.global 2), type := ty, pos := pos, after := af, guard := none } :: rest) a w :=
  by
  refine wpList_plain rfl ?_
  intro K hK
  have h2 := hK _ _ h
  unfold Oper.wp execOp
  simp only [Act.eval, Instr.loadAt, Instr.sureAddr, Sem.run_bind, Sem.run_pure, Result.andThen_ok, load_names hT]
  exact h2
theorem load_calls_list {ops : Array Oper} {rest : List Oper} {d : Option Tmp} {ty : TypeId} {pos : String} {af : _} {a : Act} {w : World} {Q : Exit → Act → World → Prop} (hT : Tabs ex w)
    (h : wpList Tryz.prog ops Q rest (a.put d (.agg callsV)) w) : wpList Tryz.prog ops Q ({ dst := d, op := .load 117 (.global 5), type := ty, pos := pos, after := af, guard := none } :: rest) a w :=
  by
  refine wpList_plain rfl ?_
  intro K hK
  have h2 := hK _ _ h
  unfold Oper.wp execOp
  simp only [Act.eval, Instr.loadAt, Instr.sureAddr, Sem.run_bind, Sem.run_pure, Result.andThen_ok, load_calls hT]
  exact h2
theorem size_string : Tryz.t9.size = 1 := by kernel_rfl
theorem index_names (k : Nat) (h : k < 29) (w : World) : (Instr.index 110 (.agg namesV) (.int .i64 k)).run Tryz.prog w = .ok (.string (nameB k)) w := by
  have h1 := names_at k h
  simp [Instr.index, run_underlying Tryz.underlying110, asIntOf, part, sizeOf, go_sem, size_string, h, h1]
theorem index_calls (k : Nat) (h : k < 4) (w : World) : (Instr.index 117 (.agg callsV) (.int .i64 k)).run Tryz.prog w = .ok (.string (callB k)) w := by
  have h1 := calls_at k h
  simp [Instr.index, run_underlying Tryz.underlying117, asIntOf, part, sizeOf, go_sem, size_string, h, h1]
/-- The number of a name: the first, if there were several. -/
def codeOf (b : ByteArray) : Nat := ((List.range 29).find? fun k : Nat => decide (nameB k = b)).getD 0
def callOf (b : ByteArray) : Nat := ((List.range 4).find? fun k : Nat => decide (callB k = b)).getD 0
theorem find_first {p : Nat → Bool} {n k : Nat} (hk : k < n) (hno : ∀ j, j < k → p j = false) (hp : p k = true) : (List.range n).find? p = some k := by
  exact List.find?_range_eq_some.2 ⟨hp, List.mem_range.2 hk, fun j hj => by simp [hno j hj]⟩
theorem find_none {p : Nat → Bool} {n : Nat} (hno : ∀ j, j < n → p j = false) : (List.range n).find? p = none := by
  rw [List.find?_eq_none]
  intro j hj
  simp [hno j (List.mem_range.1 hj)]
theorem codeOf_any (b : ByteArray) (w : World) (hT : Tabs ex w) :
    Calls Tryz.prog 54 #[.string b] w fun e w' => e = .returned (.int .i64 (codeOf b)) ∧ w' = w := by
  go_enter Tryz.func54, Tryz.ntmps54
  go_wp2_with (apply load_names_list hT)
  go_loop [6] (fun i => ∃ k : Nat, k ≤ 29 ∧ i = .int .i64 k ∧ ∀ j : Nat, j < k → nameB j ≠ b) (fun i => 29 - (intOf i).toNat)
  case atStart => exact ⟨0, by omega, rfl, fun j hj => absurd hj (Nat.not_lt_zero _)⟩
  case round =>
    obtain ⟨k, hk, rfl, hno⟩ := hrel
    by_cases hlt : k < 29
    · have hix := index_names k hlt
      by_cases hb : nameB k = b
      · have HC : Hid (codeOf b = k) := by
          show codeOf b = k
          unfold codeOf
          rw [find_first hlt (fun j hj => by simpa using hno j hj) (by simpa using hb)]; rfl
        have hq : ((nameB k).toList == b.toList) = true := by rw [hb]; simp
        clear hb hno
        go_wp2
        go_ret
        exact ⟨by rw [HC.out]; rfl, rfl⟩
      · have hq := other_text hb
        have HB : Hid (nameB k ≠ b) := hb
        clear hb
        go_wp2
        go_round
        case rel => exact ⟨k + 1, by omega, by go_num, fun j hj => by
          rcases Nat.lt_succ_iff_lt_or_eq.1 hj with h | h
          · exact hno j h
          · rw [h]; exact HB.out⟩
        case measure => simp [intOf]; omega
    · have hkk : k = 29 := by omega
      subst hkk
      have HC : Hid (codeOf b = 0) := by
        show codeOf b = 0
        unfold codeOf
        rw [find_none (fun j hj => by simpa using hno j hj)]; rfl
      go_wp2
      go_ret
      exact ⟨by rw [HC.out]; rfl, rfl⟩
theorem callOf_any (b : ByteArray) (w : World) (hT : Tabs ex w) :
    Calls Tryz.prog 94 #[.string b] w fun e w' => e = .returned (.int .i64 (callOf b)) ∧ w' = w := by
  go_enter Tryz.func94, Tryz.ntmps94
  go_wp2_with (apply load_calls_list hT)
  go_loop [6] (fun i => ∃ k : Nat, k ≤ 4 ∧ i = .int .i64 k ∧ ∀ j : Nat, j < k → callB j ≠ b) (fun i => 4 - (intOf i).toNat)
  case atStart => exact ⟨0, by omega, rfl, fun j hj => absurd hj (Nat.not_lt_zero _)⟩
  case round =>
    obtain ⟨k, hk, rfl, hno⟩ := hrel
    by_cases hlt : k < 4
    · have hix := index_calls k hlt
      by_cases hb : callB k = b
      · have HC : Hid (callOf b = k) := by
          show callOf b = k
          unfold callOf
          rw [find_first hlt (fun j hj => by simpa using hno j hj) (by simpa using hb)]; rfl
        have hq : ((callB k).toList == b.toList) = true := by rw [hb]; simp
        clear hb hno
        go_wp2
        go_ret
        exact ⟨by rw [HC.out]; rfl, rfl⟩
      · have hq := other_text hb
        have HB : Hid (callB k ≠ b) := hb
        clear hb
        go_wp2
        go_round
        case rel => exact ⟨k + 1, by omega, by go_num, fun j hj => by
          rcases Nat.lt_succ_iff_lt_or_eq.1 hj with h | h
          · exact hno j h
          · rw [h]; exact HB.out⟩
        case measure => simp [intOf]; omega
    · have hkk : k = 4 := by omega
      subst hkk
      have HC : Hid (callOf b = 0) := by
        show callOf b = 0
        unfold callOf
        rw [find_none (fun j hj => by simpa using hno j hj)]; rfl
      go_wp2
      go_ret
      exact ⟨by rw [HC.out]; rfl, rfl⟩
end Go.Proofs.YtegeiicginpdbaaGreatDoor
