/-
  The words of a text, and what asm.cut returns: they, or the first five, if they are more; the world below is as it was. Conditions: the tables lie in memory, the text is short.
-/
import Derived.Test.YtegeiicginpdbaaGreatDoorPut
import Derived.RangeFuncBox
import Derived.RangeFuncWrites
import Derived.RangeFuncLeaves
import Derived.RangeFuncCalls
import Derived.Shelf.Abstract
import Derived.OwnWalkIn
import Derived.TacticsInMore
import Derived.LoopNIn
import Derived.LoopIn
import Derived.Maps.AppendAt
import Derived.Lib.QuoteLoop
namespace Go.Proofs.YtegeiicginpdbaaGreatDoor
open Go.ChangeShapes Go.WideShapes Go.ChangeAt Go.RowKit Go.Shelf
variable {ex : Ext}
attribute [local go_sem] Oper.semAt_some

/-! ### The words, from the left -/
def lastOf (s : ByteArray) : Option Nat → List ByteArray
  | some a => [s.extract a s.size]
  | none => []
def fieldsFrom (s : ByteArray) : Nat → Option Nat → Nat → List ByteArray
  | 0, st, _ => lastOf s st
  | f + 1, st, i =>
    if i < s.size then
      if (Lib.decodeGo (s.extract i s.size)).1 = 32 then
        match st with
        | some a => s.extract a i :: fieldsFrom s f none (i + (Lib.decodeGo (s.extract i s.size)).2)
        | none => fieldsFrom s f none (i + (Lib.decodeGo (s.extract i s.size)).2)
      else fieldsFrom s f (some (st.getD i)) (i + (Lib.decodeGo (s.extract i s.size)).2)
    else lastOf s st
def fieldsOf (s : ByteArray) : List ByteArray := fieldsFrom s s.size none 0
theorem decode_wide (s : ByteArray) (i : Nat) (h : i < s.size) : 1 ≤ (Lib.decodeGo (s.extract i s.size)).2 := by
  have hz : (s.extract i s.size).size = s.size - i := by rw [ByteArray.size_extract]; omega
  unfold Lib.decodeGo
  rw [if_neg (by omega)]
  by_cases ha : ((s.extract i s.size)[0]'(by omega)).toNat < 128
  · rw [decode_ascii _ 0 (by omega) ha]; exact Nat.le_refl _
  · exact (decode_high _ 0 (by omega) (by omega)).2
/-- A short text, as the loops hand it on. -/
abbrev Short := { b : ByteArray // b.size ≤ 100000 }
theorem decode_narrow (s : ByteArray) (i : Nat) (h : i < s.size) : i + (Lib.decodeGo (s.extract i s.size)).2 ≤ s.size := by
  have hz : (s.extract i s.size).size = s.size - i := by rw [ByteArray.size_extract]; omega
  unfold Lib.decodeGo
  rw [if_neg (by omega)]
  have := Lib.width_le (s.extract i s.size) (by omega)
  omega
theorem decode_rune (s : ByteArray) (i : Nat) : (Lib.decodeGo (s.extract i s.size)).1 ≤ 2147483647 := by
  unfold Lib.decodeGo
  split
  · decide
  · exact decode_le _ 0
def startV : Option Nat → Int
  | some a => a
  | none => -1
theorem fields_blank {s : ByteArray} {f i : Nat} (h : i < s.size) (hr : (Lib.decodeGo (s.extract i s.size)).1 = 32) (a : Nat) : fieldsFrom s (f + 1) (some a) i = s.extract a i :: fieldsFrom s f none (i + (Lib.decodeGo (s.extract i s.size)).2) := by
  rw [fieldsFrom, if_pos h, if_pos hr]
theorem fields_blank_none {s : ByteArray} {f i : Nat} (h : i < s.size) (hr : (Lib.decodeGo (s.extract i s.size)).1 = 32) : fieldsFrom s (f + 1) none i = fieldsFrom s f none (i + (Lib.decodeGo (s.extract i s.size)).2) := by
  rw [fieldsFrom, if_pos h, if_pos hr]
theorem fields_word {s : ByteArray} {f i : Nat} (h : i < s.size) (hr : (Lib.decodeGo (s.extract i s.size)).1 ≠ 32) (st : Option Nat) : fieldsFrom s (f + 1) st i = fieldsFrom s f (some (st.getD i)) (i + (Lib.decodeGo (s.extract i s.size)).2) := by
  cases st <;> rw [fieldsFrom, if_pos h, if_neg hr]
theorem fields_end {s : ByteArray} {f i : Nat} (h : ¬ i < s.size) (st : Option Nat) : fieldsFrom s f st i = lastOf s st := by
  cases f with
  | zero => rfl
  | succ f => cases st <;> rw [fieldsFrom, if_neg h]
theorem piece_short {s : ByteArray} (hs : s.size ≤ 100000) (a b : Nat) : (s.extract a b).size ≤ 100000 := by rw [ByteArray.size_extract]; omega
theorem abide_call {B : Nat} {J : List Short → World → Prop} (h : AbidesFrom B J) {pre : List Short} {W W1 : World} (hJ : J pre W) (hb : Below W.heap.size W W1) : J pre W1 :=
  h pre W W1 none hJ (grown_below hb none) (fun r e => by cases e)
/-- What a round keeps: all below n₀, and two blocks more. -/
structure KeepsTwo (n₀ b1 b2 : Nat) (W W' : World) : Prop where
  bel : Below n₀ W W'
  one : W'.heap[b1]? = W.heap[b1]?
  two : W'.heap[b2]? = W.heap[b2]?
theorem KeepsTwo.trans {n₀ b1 b2 : Nat} {A B C : World} (h : KeepsTwo n₀ b1 b2 A B) (k : KeepsTwo n₀ b1 b2 B C) : KeepsTwo n₀ b1 b2 A C := ⟨h.bel.trans k.bel, k.one.trans h.one, k.two.trans h.two⟩
theorem KeepsTwo.refl {n₀ b1 b2 : Nat} (A : World) : KeepsTwo n₀ b1 b2 A A := ⟨Below.refl _ _, rfl, rfl⟩
theorem KeepsTwo.put {n₀ b1 b2 : Nat} {w : World} (hn : n₀ ≤ w.heap.size) (h1 : b1 < w.heap.size) (h2 : b2 < w.heap.size) (W : World) (l : Nat) (o o' : Obj) (hl : w.heap.size ≤ l) (h : W.heap[l]? = some o) (hc : o.isCells = false) (hw : o.isWalk = false) : KeepsTwo n₀ b1 b2 W (W.putObj l o') :=
  ⟨belowK_b hn W l o o' hl h hc hw, World.putObj_heap_other (by omega), World.putObj_heap_other (by omega)⟩
theorem piece_run (s : ByteArray) (x k : Nat) (hx : x < k) (hk : k ≤ s.size) (w : World) : (Instr.slice 9 (.string s) (some (.int .i64 x)) (some (.int .i64 k)) none).run Tryz.prog w = .ok (.string (s.extract x k)) w := by
  exact run_slice_string (P := Tryz.prog) w 9 s .i64 .i64 x k Tryz.underlying9 (by omega) (by omega) (by omega)
theorem blank_any (r : Int) (w : World) : Calls Tryz.prog 88 #[.int .i32 r] w fun e w' => e = .returned (.bool (r == 32)) ∧ w' = w := by
  go_enter Tryz.func88, Tryz.ntmps88
  go_wp2
  go_ret
  exact ⟨rfl, rfl⟩
set_option maxRecDepth 100000 in
set_option maxHeartbeats 4000000 in
theorem fields1_in (hu : ∀ w, ex.holds w → Lib.Utf8Tabs 7 8 w) (n : Nat) (hn : 1 ≤ n) (l Bs Bf n₀ : Nat) (hn₀ : 14 ≤ n₀) (s : ByteArray) (hs : s.size ≤ 100000) (J Jx : List Short → World → Prop) (W : World)
    (hJ : AbidesFrom W.heap.size J)
    (hY : ∀ (pre : List Short) (x : Short) W, J pre W → pre.length < (fieldsOf s).length → YieldAt Fence.wide (n - 1) Tryz.prog l #[.string x.1] W fun e W' =>
      (e = .returned (.bool true) ∧ J (pre ++ [x]) W' ∧ KeepsTwo n₀ Bs Bf W W') ∨ (e = .returned (.bool false) ∧ Jx (pre ++ [x]) W'))
    (hcs : W.cell? ⟨Bs, 0, none⟩ = some (.string s)) (hcf : W.cell? ⟨Bf, 0, none⟩ = some (.func (.func 88) #[] #[])) (hT : Tabs ex W) (h0 : J [] W) :
    CallsIn Fence.wide n Tryz.prog 131 #[.func (.yield l) #[] #[], .pointer (some ⟨Bs, 0, none⟩), .pointer (some ⟨Bf, 0, none⟩)] W fun e W' => (∃ v, e = .returned v) ∧
      ((∃ ys : List Short, ys.map (·.1) = fieldsOf s ∧ J ys W') ∨ (∃ pre : List Short, pre.map (·.1) <+: fieldsOf s ∧ Jx pre W')) := by
  refine callsIn_of_wp Tryz.func131 rfl trivial ?_ rfl
  simp only [Tryz.ntmps131, List.size_toArray, List.length_cons, List.length_nil, Nat.reduceAdd, Nat.reduceSub, Array.replicate_succ, Array.replicate_zero, List.push_toArray, List.append_toArray, List.nil_append, List.cons_append]
  have hf1 : Fence.wide.fn 86 := trivial
  have hf2 : Fence.wide.fn 88 := trivial
  gi_wp2
  gi_loopw [4, 5] (fun st i wr => ∃ (pre : List Short) (a : Option Nat) (k fuel : Nat), i = .int .i64 k ∧ st = .int .i64 (startV a) ∧ (∀ x, a = some x → x < k) ∧ k ≤ s.size ∧ pre.map (·.1) ++ fieldsFrom s fuel a k = fieldsOf s ∧ s.size ≤ k + fuel ∧ J pre wr ∧ Tabs ex wr
      ∧ wr.cell? ⟨Bs, 0, none⟩ = some (.string s) ∧ wr.cell? ⟨Bf, 0, none⟩ = some (.func (.func 88) #[] #[])) (fun _ i _ => s.size - (intOf i).toNat)
  case atStart => exact ⟨[], none, 0, s.size, rfl, rfl, (fun x h => by cases h), Nat.zero_le _, rfl, by omega, h0, hT, hcs, hcf⟩
  case round =>
    obtain ⟨pre, a, k, fuel, rfl, rfl, ha, hk, hacc, hfu, hJr, hTr, hcs', hcf'⟩ := hrel
    by_cases hlt : k < s.size
    · obtain ⟨f, rfl⟩ : ∃ f, fuel = f + 1 := ⟨fuel - 1, by omega⟩
      have hz1 := decode_wide s k hlt
      have hz2 := decode_narrow s k hlt
      have hr2 := decode_rune s k
      by_cases hr : (Lib.decodeGo (s.extract k s.size)).1 = 32
      · have hq : (((Lib.decodeGo (s.extract k s.size)).1 : Int) == 32) = true := by simp [hr]
        cases a with
        | some x =>
          have hx : x < k := ha x rfl
          rw [fields_blank hlt hr] at hacc
          have HA : Hid (pre.map (·.1) ++ s.extract x k :: fieldsFrom s f none (k + (Lib.decodeGo (s.extract k s.size)).2) = fieldsOf s) := hacc
          have hlen : pre.length < (fieldsOf s).length := by rw [← hacc]; simp
          have hsl := fun w => piece_run s x k hx hk w
          clear hacc hr ha
          simp only [startV]
          gi_wp2_with (first
          | (gi_at_call 86; refine (callsIn_wide.2 (Tryz.utf8_DecodeRuneInString _ _ (hu _ hTr.ext))).mono ?_; rintro e w1 ⟨rfl, hb1⟩; have hJ1 := abide_call hJ hJr hb1; have hT1 : Tabs ex w1 := hTr.on hb1 hTr.room; have hcs1 : w1.cell? ⟨Bs, 0, none⟩ = some (.string s) := (hb1.cell (p := ⟨Bs, 0, none⟩) (Lib.lt_of_cell hcs')).trans hcs'; have hcf1 : w1.cell? ⟨Bf, 0, none⟩ = some (.func (.func 88) #[] #[]) := (hb1.cell (p := ⟨Bf, 0, none⟩) (Lib.lt_of_cell hcf')).trans hcf'; obtain ⟨fn, tmps, assign, body, hy, hR⟩ := hY pre ⟨s.extract x k, piece_short hs _ _⟩ w1 hJ1 hlen; dsimp only at hy)
          | (gi_at_call 88; refine (callsIn_wide.2 (blank_any _ _)).mono ?_; rintro e w2 ⟨rfl, rfl⟩))
          refine hR.mono ?_
          rintro e W3 (⟨rfl, hJ3, hk3⟩ | ⟨rfl, hJx3⟩)
          · have hcs3 : W3.cell? ⟨Bs, 0, none⟩ = some (.string s) := (World.cell?_of_block (a := ⟨Bs, 0, none⟩) hk3.one).trans hcs1
            have hcf3 : W3.cell? ⟨Bf, 0, none⟩ = some (.func (.func 88) #[] #[]) := (World.cell?_of_block (a := ⟨Bf, 0, none⟩) hk3.two).trans hcf1
            have hT3 := hT1.on hk3.bel hn₀
            gi_wp2
            go_roundw
            case rel => exact ⟨pre ++ [⟨s.extract x k, piece_short hs _ _⟩], none, k + (Lib.decodeGo (s.extract k s.size)).2, f, by go_num, rfl, (fun x h => by cases h), hz2, by rw [List.map_append, List.append_assoc]; exact HA.out, by omega, hJ3, hT3, hcs3, hcf3⟩
            case measure => simp [intOf]; omega
          · gi_wp2
            refine bodyPost_ret (results_none rfl _ _ _) rfl ?_
            exact ⟨⟨_, rfl⟩, .inr ⟨_, ⟨fieldsFrom s f none (k + (Lib.decodeGo (s.extract k s.size)).2), by rw [List.map_append, List.append_assoc]; exact HA.out⟩, hJx3⟩⟩
        | none =>
          rw [fields_blank_none hlt hr] at hacc
          have HA : Hid (pre.map (·.1) ++ fieldsFrom s f none (k + (Lib.decodeGo (s.extract k s.size)).2) = fieldsOf s) := hacc
          clear hacc hr ha
          simp only [startV]
          gi_wp2_with (first
          | (gi_at_call 86; refine (callsIn_wide.2 (Tryz.utf8_DecodeRuneInString _ _ (hu _ hTr.ext))).mono ?_; rintro e w1 ⟨rfl, hb1⟩; have hJ1 := abide_call hJ hJr hb1; have hT1 : Tabs ex w1 := hTr.on hb1 hTr.room; have hcs1 : w1.cell? ⟨Bs, 0, none⟩ = some (.string s) := (hb1.cell (p := ⟨Bs, 0, none⟩) (Lib.lt_of_cell hcs')).trans hcs'; have hcf1 : w1.cell? ⟨Bf, 0, none⟩ = some (.func (.func 88) #[] #[]) := (hb1.cell (p := ⟨Bf, 0, none⟩) (Lib.lt_of_cell hcf')).trans hcf')
          | (gi_at_call 88; refine (callsIn_wide.2 (blank_any _ _)).mono ?_; rintro e w2 ⟨rfl, rfl⟩))
          go_roundw
          case rel => exact ⟨pre, none, k + (Lib.decodeGo (s.extract k s.size)).2, f, by go_num, rfl, (fun x h => by cases h), hz2, HA.out, by omega, hJ1, hT1, hcs1, hcf1⟩
          case measure => simp [intOf]; omega
      · have hq : (((Lib.decodeGo (s.extract k s.size)).1 : Int) == 32) = false := by simp; omega
        rw [fields_word hlt hr] at hacc
        cases a with
        | some x =>
          have hx : x < k := ha x rfl
          have HA : Hid (pre.map (·.1) ++ fieldsFrom s f (some x) (k + (Lib.decodeGo (s.extract k s.size)).2) = fieldsOf s) := hacc
          clear hacc hr ha
          simp only [startV]
          gi_wp2_with (first
          | (gi_at_call 86; refine (callsIn_wide.2 (Tryz.utf8_DecodeRuneInString _ _ (hu _ hTr.ext))).mono ?_; rintro e w1 ⟨rfl, hb1⟩; have hJ1 := abide_call hJ hJr hb1; have hT1 : Tabs ex w1 := hTr.on hb1 hTr.room; have hcs1 : w1.cell? ⟨Bs, 0, none⟩ = some (.string s) := (hb1.cell (p := ⟨Bs, 0, none⟩) (Lib.lt_of_cell hcs')).trans hcs'; have hcf1 : w1.cell? ⟨Bf, 0, none⟩ = some (.func (.func 88) #[] #[]) := (hb1.cell (p := ⟨Bf, 0, none⟩) (Lib.lt_of_cell hcf')).trans hcf')
          | (gi_at_call 88; refine (callsIn_wide.2 (blank_any _ _)).mono ?_; rintro e w2 ⟨rfl, rfl⟩))
          go_roundw
          case rel => exact ⟨pre, some x, k + (Lib.decodeGo (s.extract k s.size)).2, f, by go_num, rfl, (fun y h => by cases h; omega), hz2, HA.out, by omega, hJ1, hT1, hcs1, hcf1⟩
          case measure => simp [intOf]; omega
        | none =>
          have HA : Hid (pre.map (·.1) ++ fieldsFrom s f (some k) (k + (Lib.decodeGo (s.extract k s.size)).2) = fieldsOf s) := hacc
          clear hacc hr ha
          simp only [startV]
          gi_wp2_with (first
          | (gi_at_call 86; refine (callsIn_wide.2 (Tryz.utf8_DecodeRuneInString _ _ (hu _ hTr.ext))).mono ?_; rintro e w1 ⟨rfl, hb1⟩; have hJ1 := abide_call hJ hJr hb1; have hT1 : Tabs ex w1 := hTr.on hb1 hTr.room; have hcs1 : w1.cell? ⟨Bs, 0, none⟩ = some (.string s) := (hb1.cell (p := ⟨Bs, 0, none⟩) (Lib.lt_of_cell hcs')).trans hcs'; have hcf1 : w1.cell? ⟨Bf, 0, none⟩ = some (.func (.func 88) #[] #[]) := (hb1.cell (p := ⟨Bf, 0, none⟩) (Lib.lt_of_cell hcf')).trans hcf')
          | (gi_at_call 88; refine (callsIn_wide.2 (blank_any _ _)).mono ?_; rintro e w2 ⟨rfl, rfl⟩))
          go_roundw
          case rel => exact ⟨pre, some k, k + (Lib.decodeGo (s.extract k s.size)).2, f, by go_num, rfl, (fun y h => by cases h; omega), hz2, HA.out, by omega, hJ1, hT1, hcs1, hcf1⟩
          case measure => simp [intOf]; omega
    · have hkk : k = s.size := by omega
      rw [fields_end hlt] at hacc
      cases a with
      | some x =>
        have hx : x < k := ha x rfl
        have HA : Hid (pre.map (·.1) ++ [s.extract x s.size] = fieldsOf s) := hacc
        have hlen : pre.length < (fieldsOf s).length := by rw [← hacc]; simp [lastOf]
        clear hacc ha
        obtain ⟨fn, tmps, assign, body, hy, hR⟩ := hY pre ⟨s.extract x s.size, piece_short hs _ _⟩ wr hJr hlen
        dsimp only at hy
        simp only [startV]
        gi_wp2
        refine hR.mono ?_
        rintro e W3 (⟨rfl, hJ3, hk3⟩ | ⟨rfl, hJx3⟩)
        · gi_wp2
          go_end0
          exact ⟨⟨_, rfl⟩, .inl ⟨_, by rw [List.map_append]; exact HA.out, hJ3⟩⟩
        · gi_wp2
          go_end0
          exact ⟨⟨_, rfl⟩, .inr ⟨_, ⟨[], by rw [List.map_append, List.append_nil]; exact HA.out⟩, hJx3⟩⟩
      | none =>
        have HA : Hid (pre.map (·.1) = fieldsOf s) := by
          have h2 : pre.map (·.1) ++ [] = fieldsOf s := hacc
          rw [List.append_nil] at h2; exact h2
        clear hacc ha
        simp only [startV]
        gi_wp2
        go_end0
        exact ⟨⟨_, rfl⟩, .inl ⟨_, HA.out, hJr⟩⟩
end Go.Proofs.YtegeiicginpdbaaGreatDoor
