/-
  What stands between semicolons, and the library's iterator over it. Conditions: the text is short.
-/
import Derived.Test.YtegeiicginpdbaaGreatDoorRangeCell
namespace Go.Proofs.YtegeiicginpdbaaGreatDoor
open Go.ChangeShapes Go.WideShapes Go.ChangeAt Go.RowKit Go.Shelf
variable {ex : Ext}
attribute [local go_sem] Oper.semAt_some

def semi (t : ByteArray) : Int := Lib.indexByte t.data.toList 59
def piecesFrom : Nat → ByteArray → List ByteArray
  | 0, t => [t]
  | f + 1, t => if 0 ≤ semi t then t.extract 0 (semi t).toNat :: piecesFrom f (t.extract ((semi t).toNat + 1) t.size) else [t]
def piecesOf (s : ByteArray) : List ByteArray := piecesFrom s.size s
/-- What a round keeps: all below n₀, and some blocks more. -/
structure KeepsSet (n₀ : Nat) (bs : List Nat) (W W' : World) : Prop where
  bel : Below n₀ W W'
  also : ∀ b ∈ bs, W'.heap[b]? = W.heap[b]?
theorem KeepsSet.trans {n₀ : Nat} {bs : List Nat} {A B C : World} (h : KeepsSet n₀ bs A B) (k : KeepsSet n₀ bs B C) : KeepsSet n₀ bs A C := ⟨h.bel.trans k.bel, fun b hb => (k.also b hb).trans (h.also b hb)⟩
theorem KeepsSet.put {n₀ : Nat} {bs : List Nat} {w : World} (hn : n₀ ≤ w.heap.size) (h1 : ∀ b ∈ bs, b < w.heap.size) (W : World) (l : Nat) (o o' : Obj) (hl : w.heap.size ≤ l) (h : W.heap[l]? = some o) (hc : o.isCells = false) (hw : o.isWalk = false) : KeepsSet n₀ bs W (W.putObj l o') :=
  ⟨belowK_b hn W l o o' hl h hc hw, fun b hb => World.putObj_heap_other (by have := h1 b hb; omega)⟩
def boxLen (W : World) (b : Nat) : Nat := match W.cell? ⟨b, 0, none⟩ with
  | some (.string t) => t.size
  | _ => 0
theorem boxLen_of {W : World} {b : Nat} {ty : TypeId} {t : ByteArray} (h : Boxed W b ty (.string t)) : boxLen W b = t.size := by
  unfold boxLen; rw [h.cell]
theorem indexByte_lt : ∀ (l : List UInt8) (c : UInt8), Lib.indexByte l c < l.length
  | [], c => by simp [Lib.indexByte]
  | b :: l, c => by
    have ih := indexByte_lt l c
    unfold Lib.indexByte
    rw [List.length_cons]
    split
    · omega
    · split
      · omega
      · omega
theorem semi_lt (t : ByteArray) : semi t < t.size ∧ -1 ≤ semi t := by
  have h := indexByte_lt t.data.toList 59
  rw [size_list] at h
  exact ⟨h, Lib.indexByte_ge _ _⟩
theorem Boxed.other_box {W : World} {b c : Nat} {ty : TypeId} {v : Value} (h : Boxed W b ty v) (hne : b ≠ c) (u : Value) : Boxed (W.setCell ⟨c, 0, none⟩ u) b ty v := (Below.heap_setCell W ⟨c, 0, none⟩ u b hne).trans h
theorem pieces_cut {f : Nat} {t : ByteArray} (h : 0 ≤ semi t) : piecesFrom (f + 1) t = t.extract 0 (semi t).toNat :: piecesFrom f (t.extract ((semi t).toNat + 1) t.size) := by rw [piecesFrom, if_pos h]
theorem pieces_end {f : Nat} {t : ByteArray} (h : ¬ 0 ≤ semi t) : piecesFrom f t = [t] := by
  cases f with
  | zero => rfl
  | succ f => rw [piecesFrom, if_neg h]
theorem index_any (t : ByteArray) (w : World) : Calls Tryz.prog 80 #[.string t, .string ⟨#[59]⟩] w fun e w' => e = .returned (.int .i64 (semi t)) ∧ w' = w := Tryz.strings_Index_one t 59 w
set_option maxRecDepth 100000 in
set_option maxHeartbeats 4000000 in
theorem split1_in (n : Nat) (hn : 1 ≤ n) (l Bp Bs Bv n₀ : Nat) (h1 : Bp ≠ Bs) (h2 : Bv ≠ Bs) (s : ByteArray) (hs : s.size ≤ 100000) (J Jx : List Short → World → Prop) (W : World) (hJ : Abide Bs J)
    (hY : ∀ (pre : List Short) (x : Short) W, J pre W → pre.length < (piecesOf s).length → YieldAt Fence.wide (n - 1) Tryz.prog l #[.string x.1] W fun e W' =>
      (e = .returned (.bool true) ∧ J (pre ++ [x]) W' ∧ KeepsSet n₀ [Bp, Bs, Bv] W W') ∨ (e = .returned (.bool false) ∧ Jx (pre ++ [x]) W'))
    (bP : Boxed W Bp 9 (.string ⟨#[59]⟩)) (bS : Boxed W Bs 9 (.string s)) (bV : Boxed W Bv 3 (.int .i64 0)) (h0 : J [] W) :
    CallsIn Fence.wide n Tryz.prog 85 #[.func (.yield l) #[] #[], .pointer (some ⟨Bp, 0, none⟩), .pointer (some ⟨Bs, 0, none⟩), .pointer (some ⟨Bv, 0, none⟩)] W fun e W' => (∃ v, e = .returned v) ∧
      ((∃ ys : List Short, ys.map (·.1) = piecesOf s ∧ J ys W') ∨ (∃ pre : List Short, pre.map (·.1) <+: piecesOf s ∧ Jx pre W')) := by
  refine callsIn_of_wp Tryz.func85 rfl trivial ?_ rfl
  simp only [Tryz.ntmps85, List.size_toArray, List.length_cons, List.length_nil, Nat.reduceAdd, Nat.reduceSub, Array.replicate_succ, Array.replicate_zero, List.push_toArray, List.append_toArray, List.nil_append, List.cons_append]
  have hf1 : Fence.wide.fn 80 := trivial
  have cP := bP.cell
  gi_wp2
  gi_loopw [] (fun wr => ∃ (pre : List Short) (t : ByteArray) (fuel : Nat), Boxed wr Bs 9 (.string t) ∧ Boxed wr Bp 9 (.string ⟨#[59]⟩) ∧ Boxed wr Bv 3 (.int .i64 0) ∧ pre.map (·.1) ++ piecesFrom fuel t = piecesOf s ∧ t.size ≤ fuel ∧ t.size ≤ 100000 ∧ J pre wr) (fun wr => boxLen wr Bs)
  case atStart => exact ⟨[], s, s.size, bS, bP, bV, rfl, Nat.le_refl _, hs, h0⟩
  case round =>
    obtain ⟨pre, t, fuel, bS', bP', bV', hacc, hfu, htz, hJr⟩ := hrel
    have cS := bS'.cell
    have cP' := bP'.cell
    have cV := bV'.cell
    have hsm := semi_lt t
    by_cases hi : 0 ≤ semi t
    · obtain ⟨f, rfl⟩ : ∃ f, fuel = f + 1 := ⟨fuel - 1, by omega⟩
      rw [pieces_cut hi] at hacc
      obtain ⟨k, hk⟩ := Int.eq_ofNat_of_zero_le hi
      rw [hk] at hacc hsm
      have hkl : k < t.size := by have := hsm.1; omega
      have hlen : pre.length < (piecesOf s).length := by rw [← hacc]; simp
      have HA : Hid (pre.map (·.1) ++ t.extract 0 k :: piecesFrom f (t.extract (k + 1) t.size) = piecesOf s) := hacc
      have HK : Hid (semi t = k) := hk
      clear hacc hi hsm hk
      obtain ⟨fn, tmps, assign, body, hy, hR⟩ := hY pre ⟨t.extract 0 k, piece_short htz _ _⟩ wr hJr hlen
      dsimp only at hy
      gi_wp2_with (gi_at_call 80; refine (callsIn_wide.2 (index_any _ _)).mono ?_; rintro e w1 ⟨rfl, rfl⟩; rw [HK.out])
      refine hR.mono ?_
      rintro e W3 (⟨rfl, hJ3, hk3⟩ | ⟨rfl, hJx3⟩)
      · have bS3 : Boxed W3 Bs 9 (.string t) := (hk3.also Bs (by simp)).trans bS'
        have bP3 : Boxed W3 Bp 9 (.string ⟨#[59]⟩) := (hk3.also Bp (by simp)).trans bP'
        have bV3 : Boxed W3 Bv 3 (.int .i64 0) := (hk3.also Bv (by simp)).trans bV'
        have cS3 := bS3.cell
        have fS3 := bS3.frozen
        have cP3 := bP3.cell
        have hz : boxLen w1 Bs = t.size := boxLen_of bS'
        gi_wp2
        go_roundw
        case rel => exact ⟨pre ++ [⟨t.extract 0 k, piece_short htz _ _⟩], t.extract (k + 1) t.size, f, bS3.set _, Boxed.other_box bP3 h1 _, Boxed.other_box bV3 h2 _, by rw [List.map_append, List.append_assoc]; exact HA.out, by rw [ByteArray.size_extract]; omega, by rw [ByteArray.size_extract]; omega, hJ _ _ _ _ hJ3 (grown_set (grown_below (Below.refl _ _) _) 0 _) (Or.inr rfl)⟩
        case measure => rw [hz, boxLen_of (bS3.set _), ByteArray.size_extract]; omega
      · gi_wp2
        refine bodyPost_ret (results_none rfl _ _ _) rfl ?_
        exact ⟨⟨_, rfl⟩, .inr ⟨_, ⟨piecesFrom f (t.extract (k + 1) t.size), by rw [List.map_append, List.append_assoc]; exact HA.out⟩, hJx3⟩⟩
    · have x1 : decide (semi t < 0) = true := by simp; omega
      rw [pieces_end hi] at hacc
      have hlen : pre.length < (piecesOf s).length := by rw [← hacc]; simp
      have HA : Hid (pre.map (·.1) ++ [t] = piecesOf s) := hacc
      clear hacc hi hsm
      obtain ⟨fn, tmps, assign, body, hy, hR⟩ := hY pre ⟨t, htz⟩ wr hJr hlen
      dsimp only at hy
      gi_wp2_with (gi_at_call 80; refine (callsIn_wide.2 (index_any _ _)).mono ?_; rintro e w1 ⟨rfl, rfl⟩)
      refine hR.mono ?_
      rintro e W3 (⟨rfl, hJ3, hk3⟩ | ⟨rfl, hJx3⟩)
      · gi_wp2
        go_end0
        exact ⟨⟨_, rfl⟩, .inl ⟨_, by rw [List.map_append]; exact HA.out, hJ3⟩⟩
      · gi_wp2
        go_end0
        exact ⟨⟨_, rfl⟩, .inr ⟨_, ⟨[], by rw [List.map_append, List.append_nil]; exact HA.out⟩, hJx3⟩⟩
theorem splitSeq_any (s : ByteArray) (w : World) : Calls Tryz.prog 27 #[.string s, .string ⟨#[59]⟩] w fun e w' =>
    e = .returned (.func (.func 85) #[] #[.pointer (some ⟨w.heap.size + 1, 0, none⟩), .pointer (some ⟨w.heap.size, 0, none⟩), .pointer (some ⟨w.heap.size + 2, 0, none⟩)]) ∧ w' = ((w.alloc (.cells #[.string s] 9)).alloc (.cells #[.string ⟨#[59]⟩] 9)).alloc (.cells #[.int .i64 0] 3) := by
  go_enter Tryz.func27, Tryz.ntmps27
  go_wp2
  go_ret
  exact ⟨rfl, rfl⟩
end Go.Proofs.YtegeiicginpdbaaGreatDoor
