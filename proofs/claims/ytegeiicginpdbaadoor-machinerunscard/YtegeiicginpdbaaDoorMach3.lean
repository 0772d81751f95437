/-
  The steps of a program that runs: what package machine's methods do to it; all else is as it was. Conditions: numbers are of 64 bits.
-/
import Derived.Test.YtegeiicginpdbaaDoorMach2
import Derived.Deep.DeepCutAuto
import Derived.Deep.DeepMust
import Derived.BigQuiet
import Derived.Deep.QuietTactic
namespace Go.Proofs.YtegeiicginpdbaaDoor
open Go.ChangeShapes Go.WideShapes Go.ChangeAt Go.RowKit
/-- All below is as it was but block B. -/
abbrev Kept (B : Nat) (w w' : World) : Prop := w.grownBy w' (some B)
theorem kept_below {w w1 : World} (hb : Below w.heap.size w w1) (B : Nat) : Kept B w w1 := ⟨hb.os, hb.tape, hb.output, hb.size, fun k hk _ => hb.block k hk⟩
theorem kept_set {w w1 : World} {B : Nat} (h : Kept B w w1) (i : Nat) (v : Value) : Kept B w (w1.setCell ⟨B, i, none⟩ v) :=
  ⟨h.os, h.tape, h.output, by show w.heap.size ≤ (w1.heap.modify B _).size; rw [Array.size_modify]; exact h.size, fun k hk hne => (Below.heap_setCell w1 ⟨B, i, none⟩ v k (fun e => hne (by rw [e]))).trans (h.block k hk hne)⟩
theorem kept_drew {w w1 : World} {B : Nat} (h : Kept B w w1) : Kept B w w1.drew := ⟨h.os, h.tape, h.output, h.size, h.block⟩
theorem kept_trans {w w1 w2 : World} {B : Nat} (h : Kept B w w1) (k : Kept B w1 w2) : Kept B w w2 :=
  ⟨k.os.trans h.os, k.tape.trans h.tape, k.output.trans h.output, Nat.le_trans h.size k.size, fun i hi hne => (k.block i (Nat.lt_of_lt_of_le hi h.size) hne).trans (h.block i hi hne)⟩
theorem later_box {W w1 : World} (hb : Below W.heap.size W w1) (b : Nat) : b < W.heap.size → (∀ o, w1.cell? ⟨b, o, none⟩ = W.cell? ⟨b, o, none⟩) ∧ (∀ o, w1.frozen? ⟨b, o, none⟩ = W.frozen? ⟨b, o, none⟩) ∧ b < w1.heap.size := fun h =>
  ⟨fun o => hb.cell (p := ⟨b, o, none⟩) h, fun o => by
    have e := hb.block b h
    unfold World.frozen?
    rw [e], Nat.lt_of_lt_of_le h hb.size⟩
theorem drew_size (w : World) : w.drew.heap.size = w.heap.size := rfl
theorem drewN_size (w : World) (k : Nat) : (w.drewN k).heap.size = w.heap.size := rfl
theorem setCell_size (w : World) (a : Addr) (v : Value) : (w.setCell a v).heap.size = w.heap.size := by simp [World.setCell]
attribute [local simp] drew_size drewN_size setCell_size
/-- A method's frame: its step lies in block S, the program that runs in block B. -/
structure Frm (S B : Nat) (c d s : Int) (r : Bool) (o n : Int) (m : Mac) (w : World) : Prop where
  box : w.heap[S]? = some (.cells #[.int .i64 c, .int .i64 d, .int .i64 s, .bool r, .int .i64 o, .int .i64 n] 75 (0, 0))
  mac : MacAt w B m
theorem Frm.ltS {S B : Nat} {c d s o n : Int} {r : Bool} {m : Mac} {w : World} (h : Frm S B c d s r o n m w) : S < w.heap.size := (Array.getElem?_eq_some_iff.1 h.box).1
theorem Frm.later {S B : Nat} {c d s o n : Int} {r : Bool} {m : Mac} {w w1 : World} (h : Frm S B c d s r o n m w) (hb : Below w.heap.size w w1) : Frm S B c d s r o n m w1 := ⟨(hb.block S h.ltS).trans h.box, h.mac.later hb⟩
theorem Frm.alloc {S B : Nat} {c d s o n : Int} {r : Bool} {m : Mac} {w : World} (h : Frm S B c d s r o n m w) (x : Obj) : Frm S B c d s r o n m (w.alloc x) := h.later ((Below.refl _ _).alloc (Nat.le_refl _) _)
theorem Frm.drew {S B : Nat} {c d s o n : Int} {r : Bool} {m : Mac} {w : World} (h : Frm S B c d s r o n m w) : Frm S B c d s r o n m w.drew := ⟨h.box, h.mac⟩
theorem Frm.drewN {S B : Nat} {c d s o n : Int} {r : Bool} {m : Mac} {w : World} (h : Frm S B c d s r o n m w) (k : Nat) : Frm S B c d s r o n m (w.drewN k) := ⟨h.box, h.mac⟩
theorem Frm.set {S B : Nat} {c d s o n : Int} {r : Bool} {m : Mac} {w : World} (h : Frm S B c d s r o n m w) (a : Addr) (v : Value) (h1 : S ≠ a.block) (h2 : B ≠ a.block) : Frm S B c d s r o n m (w.setCell a v) :=
  ⟨(Below.heap_setCell w a v S h1).trans h.box, (Below.heap_setCell w a v B h2).trans h.mac⟩
theorem Frm.cells {S B : Nat} {c d s o n : Int} {r : Bool} {m : Mac} {w : World} (h : Frm S B c d s r o n m w) : w.cell? ⟨S, 0, none⟩ = some (.int .i64 c) ∧ w.cell? ⟨S, 1, none⟩ = some (.int .i64 d) ∧ w.cell? ⟨S, 2, none⟩ = some (.int .i64 s) ∧ w.cell? ⟨S, 3, none⟩ = some (.bool r) ∧ w.cell? ⟨S, 4, none⟩ = some (.int .i64 o) ∧ w.cell? ⟨S, 5, none⟩ = some (.int .i64 n) := by
  have e := h.box
  exact ⟨by simp [World.cell?, e], by simp [World.cell?, e], by simp [World.cell?, e], by simp [World.cell?, e], by simp [World.cell?, e], by simp [World.cell?, e]⟩
theorem Frm.start {B : Nat} {c d s o n : Int} {r : Bool} {m : Mac} {w : World} (h : MacAt w B m) : Frm w.heap.size B c d s r o n m (w.alloc (.cells #[.int .i64 c, .int .i64 d, .int .i64 s, .bool r, .int .i64 o, .int .i64 n] 75)) :=
  ⟨by show (w.heap.push _)[w.heap.size]? = _; simp, h.later ((Below.refl _ _).alloc (Nat.le_refl _) _)⟩
set_option maxHeartbeats 8000000 in
set_option maxRecDepth 100000 in
theorem change_any (B d s : Nat) (c o n : Int) (r : Bool) (m : Mac) (hd : d < 11) (hs : s < 11) (k0 : -9223372036854775808 ≤ (m.second s r n).n) (k1 : (m.second s r n).n ≤ 9223372036854775807) (mk mn mc E : Int) (HE : Hid (makesF c (m.reg d) (m.second s r n) = (⟨mk, mn, mc⟩, E))) (w : World) (hM : MacAt w B m) :
    Calls Tryd.prog 104 #[.pointer (some ⟨B, 0, none⟩), .agg #[.int .i64 c, .int .i64 d, .int .i64 s, .bool r, .int .i64 o, .int .i64 n]] w fun e w' =>
      e = .returned (.int .i64 E) ∧ Kept B w w' ∧ MacAt w' B (m.putReg d ⟨mk, mn, mc⟩) := by
  have hB := hM.lt
  have hF0 : Frm w.heap.size B c d s r o n m _ := Frm.start hM
  obtain ⟨p0, p1, p2, p3, p4, p5⟩ := hF0.cells
  obtain ⟨h0, h1, h2⟩ := hF0.mac.reg hd
  have hd0 : (0 : Int) ≤ (d : Int) := by omega
  have hd1 : (d : Int) < 11 := by omega
  go_enter Tryd.func104, Tryd.ntmps104
  go_wp2_with fail
  go_cut [5, 6] (fun s5 s6 wx => ∃ L : Nat, s5 = .pointer (some ⟨L, 0, none⟩) ∧ s6 = .int .i64 E ∧ Below w.heap.size w wx ∧ Frm w.heap.size B c d s r o n m wx ∧ L < wx.heap.size ∧ wx.cell? ⟨L, 0, none⟩ = some (.int .i64 mk) ∧ wx.cell? ⟨L, 1, none⟩ = some (.int .i64 mn) ∧ wx.cell? ⟨L, 2, none⟩ = some (.int .i64 mc))
  case first =>
    go_region_held3 (fun w' => w'.cell? ⟨w.heap.size, 0, none⟩ = some (.int .i64 c) ∧ w'.cell? ⟨w.heap.size, 1, none⟩ = some (.int .i64 d) ∧ w'.cell? ⟨w.heap.size, 2, none⟩ = some (.int .i64 s) ∧ w'.cell? ⟨w.heap.size, 3, none⟩ = some (.bool r) ∧ w'.cell? ⟨w.heap.size, 4, none⟩ = some (.int .i64 o) ∧ w'.cell? ⟨w.heap.size, 5, none⟩ = some (.int .i64 n) ∧ w'.cell? ⟨B, 2 + d * 3, none⟩ = some (.int .i64 (m.reg d).k) ∧ w'.cell? ⟨B, 2 + d * 3 + 1, none⟩ = some (.int .i64 (m.reg d).n) ∧ w'.cell? ⟨B, 2 + d * 3 + 2, none⟩ = some (.int .i64 (m.reg d).c)) (first | (simp [go_sem]; done) | (simp [go_sem, *]; done) | go_keep) (first
      | (go_at_call 116; go_must (refine (second_any B s c d o n r m hs _ (Frm.mac (S := w.heap.size) (c := c) (d := d) (s := s) (r := r) (o := o) (n := n) (by repeat' first | exact hF0 | exact hF1 | exact hF2 | refine Frm.alloc ?_ _ | refine Frm.drew ?_ | refine Frm.drewN ?_ _))).mono ?_; rintro e w1 ⟨rfl, hb1⟩; have hF1 : Frm w.heap.size B c d s r o n m w1 := Frm.later (by repeat' first | exact hF0 | exact hF1 | exact hF2 | refine Frm.alloc ?_ _ | refine Frm.drew ?_ | refine Frm.drewN ?_ _) hb1; have hbw1 : Below w.heap.size w w1 := (by ((refine Below.trans ?_ (hb1.mono ?_)) <;> repeat' first | exact Below.refl _ _ | exact hbw1 | exact hbw2 | refine Below.alloc ?_ ?_ _ | refine Below.setCell ?_ ?_ _ | refine Below.drew ?_ | refine below_drewN ?_ _ | (simp; done) | (simp; omega) | omega)); obtain ⟨v0, v1, v2, v3, v4, v5⟩ := hF1.cells; obtain ⟨i0, i1, i2⟩ := hF1.mac.reg hd; have hS1 := hF1.ltS; have hB1 := hF1.mac.lt; have v6 := later_box hb1 (w.heap.size + 1); (try simp [go_sem] at v6)))
      | (go_at_call 121; go_must (refine (makes_any c (m.reg d) (m.second s r n) k0 k1 _).mono ?_; rintro e w2 ⟨rfl, hb2⟩; rw [HE.out]; simp only [Val.v]; have hF2 : Frm w.heap.size B c d s r o n m w2 := Frm.later (by repeat' first | exact hF0 | exact hF1 | exact hF2 | refine Frm.alloc ?_ _ | refine Frm.drew ?_ | refine Frm.drewN ?_ _) hb2; have hbw2 : Below w.heap.size w w2 := (by ((refine Below.trans ?_ (hb2.mono ?_)) <;> repeat' first | exact Below.refl _ _ | exact hbw1 | exact hbw2 | refine Below.alloc ?_ ?_ _ | refine Below.setCell ?_ ?_ _ | refine Below.drew ?_ | refine below_drewN ?_ _ | (simp; done) | (simp; omega) | omega)); obtain ⟨v0, v1, v2, v3, v4, v5⟩ := hF2.cells; obtain ⟨i0, i1, i2⟩ := hF2.mac.reg hd; have hS2 := hF2.ltS; have hB2 := hF2.mac.lt; have v7 := later_box hb2 w1.heap.size; have v8 := later_box hb2 (w.heap.size + 1); (try simp [go_sem] at v7); (try simp [go_sem, *] at v8))))
    all_goals (go_wp2_with fail; go_meet)
    all_goals refine ⟨_, rfl, rfl, by repeat' first | exact Below.refl _ _ | exact hbw1 | exact hbw2 | refine Below.alloc ?_ ?_ _ | refine Below.setCell ?_ ?_ _ | refine Below.drew ?_ | refine below_drewN ?_ _ | (simp; done) | (simp; omega) | omega, by repeat' first | exact hF2 | refine Frm.alloc ?_ _ | refine Frm.drew ?_ | refine Frm.drewN ?_ _ | refine Frm.set ?_ _ _ ?_ ?_ | (intro hh; simp at hh; done) | (intro hh; simp at hh; omega), ?_, ?_, ?_, ?_⟩
    all_goals first | (simp; done) | (simp; omega) | (simp [go_sem, *]; done) | skip
  case rest =>
    obtain ⟨L, rfl, rfl, hbw, hFx, hL, l0, l1, l2⟩ := hcut
    obtain ⟨v0, v1, v2, v3, v4, v5⟩ := hFx.cells
    obtain ⟨i0, i1, i2⟩ := hFx.mac.reg hd
    have hSx := hFx.ltS
    have hBx := hFx.mac.lt
    have f0 := hFx.mac.frozen (2 + d * 3)
    have f1 := hFx.mac.frozen (2 + d * 3 + 1)
    have f2 := hFx.mac.frozen (2 + d * 3 + 2)
    have HK := kept_below hbw B
    go_wp2_with fail
    go_region
    all_goals go_wp2
    all_goals go_ret
    all_goals exact ⟨rfl, by repeat' first | exact HK | refine kept_set ?_ _ _ | refine kept_drew ?_, (hFx.mac.putReg hd ⟨mk, mn, mc⟩ :)⟩
end Go.Proofs.YtegeiicginpdbaaDoor
