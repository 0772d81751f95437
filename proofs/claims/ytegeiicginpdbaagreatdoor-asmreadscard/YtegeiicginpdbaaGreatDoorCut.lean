/-
  What asm.cut returns: a text's words, or the first five, if they are more; the world below is as it was. Conditions: the tables lie in memory, the text is short.
-/
import Derived.Test.YtegeiicginpdbaaGreatDoorFields
import Derived.Test.YtegeiicginpdbaaGreatDoorWritten
namespace Go.Proofs.YtegeiicginpdbaaGreatDoor
open Go.ChangeShapes Go.WideShapes Go.ChangeAt Go.RowKit Go.Shelf
variable {ex : Ext}
attribute [local go_sem] Oper.semAt_some

/-- A box below the row that it holds: behind an append whose result is stored in it. -/
theorem collected {W w1 : World} {B n₁ : Nat} {t e : TypeId} {v v' : Value} {k m : Nat} {xs ys : List Value} {tmp : Obj} (hv : Boxed W B t v) (hB : B < n₁) (hn₁ : n₁ ≤ W.heap.size) (hrow : W.ownsRow n₁ e 1 v k xs)
    (hown' : w1.ownsRow n₁ e 1 v' m ys) (hgrow : (W.alloc tmp).grownBy w1 v.ownBlock) :
    Boxed w1 B t v ∧ Boxed (w1.setCell ⟨B, 0, none⟩ v') B t v' ∧ (w1.setCell ⟨B, 0, none⟩ v').ownsRow n₁ e 1 v' m ys ∧ KeepsOthers W (w1.setCell ⟨B, 0, none⟩ v') ∧ Below B W (w1.setCell ⟨B, 0, none⟩ v')
      ∧ ∀ j, j < n₁ → j ≠ B → (w1.setCell ⟨B, 0, none⟩ v').heap[j]? = W.heap[j]? := by
  have hf := own_from hrow
  have hk : ∀ j, j < n₁ → w1.heap[j]? = W.heap[j]? := fun j hj => (hgrow.block j (by simp; omega) (fun e => by have := hf j e.symm; omega)).trans (Below.heap_alloc _ _ _ (by omega))
  have hb1 : Boxed w1 B t v := (hk B hB).trans hv
  refine ⟨hb1, hb1.set v', ownsRow_setCell_below hown' hB v', ?_, ?_, fun j hj hne => (Below.heap_setCell w1 ⟨B, 0, none⟩ v' j hne).trans (hk j hj)⟩
  · refine ((KeepsOthers.alloc W tmp).trans (KeepsOthers.of_grownBy hgrow fun j o e ho => ?_)).trans (KeepsOthers.setCell _ _ _)
    rcases (hrow.alloc tmp).2 with ⟨rfl, _⟩ | ⟨g, cap, cur, rfl, _, hg, _⟩
    · simp [Value.ownBlock] at e
    · simp [Value.ownBlock] at e
      subst e; rw [hg] at ho; cases ho; rfl
  · exact (((Below.refl B W).alloc (by omega) tmp).grown hgrow (by simp; omega) (fun j e => by have := hf j e; omega)).setCell (Nat.le_refl _) _
theorem ownFrom_size {β : Type} (B N : Nat) : OwnFrom B (fun (_ : β) W => N ≤ W.heap.size) := fun _ _ _ _ hs hg _ => Nat.le_trans hs hg.size
theorem own_lower {w : World} {base base' n : Nat} {e : TypeId} {v : Value} {xs : List Value} (h : w.ownsRow base e 1 v n xs) (hb : base' ≤ base) : w.ownsRow base' e 1 v n xs := by
  refine ⟨h.1, ?_⟩
  rcases h.2 with hn | ⟨g, cap, cur, rfl, hg, rest⟩
  · exact .inl hn
  · exact .inr ⟨g, cap, cur, rfl, Nat.le_trans hb hg, rest⟩
theorem taken {s : ByteArray} {ys : List Short} (h : ys.map (·.1) <+: fieldsOf s) (h5 : ys.length = 5 ∨ (ys.length ≤ 5 ∧ ys.map (·.1) = fieldsOf s)) : (fieldsOf s).take 5 = ys.map (·.1) := by
  rcases h5 with h5 | ⟨h5, e⟩
  · obtain ⟨r, hr⟩ := h
    have hl : (ys.map (·.1)).length = 5 := by simpa using h5
    rw [← hr, ← hl, List.take_left']
    rfl
  · rw [← e, List.take_of_length_le (by simpa using h5)]
theorem own_taken {W : World} {base : Nat} {e : TypeId} {v : Value} {s : ByteArray} {ys : List Short} (h : (fieldsOf s).take 5 = ys.map (·.1)) (hrow : W.ownsRow base e 1 v ys.length (ys.map fun x => Value.string x.1)) : W.ownsRow base e 1 v ((fieldsOf s).take 5).length (((fieldsOf s).take 5).map Value.string) := by
  rw [h]
  simpa using hrow
theorem fieldsSeq_any (s : ByteArray) (w : World) : Calls Tryz.prog 87 #[.string s, .func (.func 88) #[] #[]] w fun e w' =>
    e = .returned (.func (.func 131) #[] #[.pointer (some ⟨w.heap.size, 0, none⟩), .pointer (some ⟨w.heap.size + 1, 0, none⟩)]) ∧ w' = (w.alloc (.cells #[.string s] 9)).alloc (.cells #[.func (.func 88) #[] #[]] 181) := by
  go_enter Tryz.func87, Tryz.ntmps87
  go_wp2
  go_ret
  exact ⟨rfl, rfl⟩
theorem fields_stops (hu : ∀ w, ex.holds w → Lib.Utf8Tabs 7 8 w) (n : Nat) (hn : 1 ≤ n) (Bs Bf n₀ : Nat) (hn₀ : 14 ≤ n₀) (s : ByteArray) (hs : s.size ≤ 100000) (w : World) (hBs : Bs < w.heap.size) (hBf : Bf < w.heap.size)
    (hcs : w.cell? ⟨Bs, 0, none⟩ = some (.string s)) (hcf : w.cell? ⟨Bf, 0, none⟩ = some (.func (.func 88) #[] #[])) (hT : Tabs ex w) :
    SeqStopsK Fence.wide n Tryz.prog 131 #[.pointer (some ⟨Bs, 0, none⟩), .pointer (some ⟨Bf, 0, none⟩)] (fun x : Short => #[Value.string x.1]) (KeepsTwo n₀ Bs Bf) (fun ys => ys.map (·.1) = fieldsOf s) (fun pre => pre.map (·.1) <+: fieldsOf s) (fieldsOf s).length w := fun l J Jx W hW hJ _ hY h0 =>
  fields1_in hu n hn l Bs Bf n₀ hn₀ s hs J Jx W hJ hY ((hW.cell (p := ⟨Bs, 0, none⟩) hBs).trans hcs) ((hW.cell (p := ⟨Bf, 0, none⟩) hBf).trans hcf) (hT.on hW hT.room) h0
set_option maxRecDepth 100000 in
set_option maxHeartbeats 4000000 in
theorem cut_any (hu : ∀ w, ex.holds w → Lib.Utf8Tabs 7 8 w) (s : ByteArray) (hs : s.size ≤ 100000) (w : World) (hT : Tabs ex w) :
    Calls Tryz.prog 52 #[.string s] w fun e W' => ∃ v, e = .returned v ∧ W'.ownsRow w.heap.size 9 1 v ((fieldsOf s).take 5).length (((fieldsOf s).take 5).map Value.string) ∧ Below w.heap.size w W' := by
  refine (callsIn_wide (n := 6)).1 ?_
  have hF := Fine.start hT
  have hf1 : Fence.wide.fn 87 := trivial
  obtain ⟨i0, hi, hz0, hz1, hz2⟩ := info_parts Tryz.infoS
  refine callsIn_of_wp_marks Tryz.func52 rfl trivial ?_ rfl
  simp only [Tryz.ntmps52, List.size_toArray, List.length_cons, List.length_nil, Nat.reduceAdd, Nat.reduceSub, Array.replicate_succ, Array.replicate_zero, List.push_toArray, List.append_toArray, List.nil_append, List.cons_append]
  gi_wp2_with (gi_at_call 87; refine (callsIn_wide.2 (fieldsSeq_any _ _)).mono ?_; rintro e w' ⟨rfl, rfl⟩)
  have bO := Boxed.new w 64 (.slice none 0 0)
  have bS := Boxed.new (w.alloc (.cells #[.slice none 0 0] 64)) 9 (.string s)
  have bF := Boxed.new ((w.alloc (.cells #[.slice none 0 0] 64)).alloc (.cells #[.string s] 9)) 181 (.func (.func 88) #[] #[])
  simp only [World.size_alloc] at bS bF
  have hF3 := ((hF.alloc (.cells #[.slice none 0 0] 64)).alloc (.cells #[.string s] 9)).alloc (.cells #[.func (.func 88) #[] #[]] 181)
  refine wpIn_rangeFunc_ownG rfl (by omega) (gf := 131) (lb := #[.pointer (some ⟨w.heap.size + 1, 0, none⟩), .pointer (some ⟨w.heap.size + 1 + 1, 0, none⟩)]) rfl trivial (enters_of Tryz.func131 (by kernel_rfl) rfl)
    (fields_stops hu (6 - 1) (by omega) (w.heap.size + 1) (w.heap.size + 1 + 1) w.heap.size hT.room s hs _ (by simp <;> omega) (by simp <;> omega) (bS.alloc _).cell bF.cell hF3.tabs) KeepsTwo.trans (KeepsTwo.put (by simp <;> omega) (by simp <;> omega) (by simp <;> omega)) (Below.refl _ _) (fun _ => rfl)
    (fun pre W => (∃ v, Boxed W w.heap.size 64 v ∧ W.ownsRow (w.heap.size + 3) 9 1 v pre.length (pre.map fun x => Value.string x.1) ∧ (pre.length ≤ 4)) ∧ (Below w.heap.size w W ∧ w.heap.size + 3 ≤ W.heap.size))
    (fun c pre W => (∃ v, Boxed W w.heap.size 64 v ∧ W.ownsRow (w.heap.size + 3) 9 1 v pre.length (pre.map fun x => Value.string x.1) ∧ (c = .exit 0 ∧ pre.length = 5)) ∧ (Below w.heap.size w W ∧ w.heap.size + 3 ≤ W.heap.size))
    (OwnFrom.and (Own.from (holdsRow_own (w.heap.size + 3) w.heap.size 64 9 1 (fun pre : List Short => pre.length) (fun pre => pre.map fun x => Value.string x.1) (fun pre _ => pre.length ≤ 4)) _) (OwnFrom.and (ownFrom_below (Nat.le_refl _) (by simp <;> omega)) (ownFrom_size _ _)))
    (fun c => OwnFrom.and (Own.from (holdsRow_own (w.heap.size + 3) w.heap.size 64 9 1 (fun pre : List Short => pre.length) (fun pre => pre.map fun x => Value.string x.1) (fun pre _ => c = .exit 0 ∧ pre.length = 5)) _) (OwnFrom.and (ownFrom_below (Nat.le_refl _) (by simp <;> omega)) (ownFrom_size _ _)))
    ⟨⟨_, (bO.alloc _).alloc _, World.ownsRow_nil _ _ _ _, by simp⟩, hF3.bel, by simp⟩
    (fun x => { tmps := #[.string s, undef, .slice none 0 0, .pointer (some ⟨w.heap.size, 0, none⟩), .string x.1, .string s, .func (.func 131) #[] #[.pointer (some ⟨w.heap.size + 1, 0, none⟩), .pointer (some ⟨w.heap.size + 1 + 1, 0, none⟩)], .string x.1, undef, undef, undef, undef, undef, undef, undef, undef], defers := [] }) ?assign ?body ?done ?stop
  case assign =>
    intro l x W K hK
    gi_wp2
    exact hK
  case body =>
    rintro l pre x W ⟨⟨v, hv, hrow, hp4⟩, hB, hWz⟩ hlt
    have hc := hv.cell
    by_cases h4 : pre.length = 4
    · have x1 : decide (4 < ((pre.length : Int) + 1)) = true := by simp; omega
      have H4 : Hid (pre.length = 4) := h4
      clear h4
      gi_wp2_with (gi_at_builtin; refine wpListIn_append_own _ rfl _ _ 64 rfl (w.heap.size + 3) 9 i0 (.string ⟨#[]⟩) 1 16 Tryz.underlying64 hi hz0 hz1 hz2 rfl (by decide) _ _ _ rfl (hrow.alloc _) ⟨W.heap.size, 0, none⟩ 1 1 [.string x.1] rfl rfl (cell_one_new _ _ _) (by simp [Value.oneCell']) (by unfold maxLen; omega) (by omega) (by simp; omega) ?_; intro v' w1 hown' hgrow _; obtain ⟨g', cap', rfl⟩ := ownsRow_succ hown'; obtain ⟨hv1, hv2, hr2, hk2, hb2, hj2⟩ := collected hv (by omega) hWz hrow hown' hgrow; have hc1 := hv1.cell; have hf1 := hv1.frozen)
      exact ⟨hk2.from _, ⟨_, hv2, by simpa using hr2, rfl, by rw [List.length_append, H4.out]; rfl⟩, hB.trans hb2, Nat.le_trans hWz hb2.size⟩
    · have x1 : decide (4 < ((pre.length : Int) + 1)) = false := by simp; omega
      have H4 : Hid (pre.length ≠ 4) := h4
      clear h4
      gi_wp2_with (gi_at_builtin; refine wpListIn_append_own _ rfl _ _ 64 rfl (w.heap.size + 3) 9 i0 (.string ⟨#[]⟩) 1 16 Tryz.underlying64 hi hz0 hz1 hz2 rfl (by decide) _ _ _ rfl (hrow.alloc _) ⟨W.heap.size, 0, none⟩ 1 1 [.string x.1] rfl rfl (cell_one_new _ _ _) (by simp [Value.oneCell']) (by unfold maxLen; omega) (by omega) (by simp; omega) ?_; intro v' w1 hown' hgrow _; obtain ⟨g', cap', rfl⟩ := ownsRow_succ hown'; obtain ⟨hv1, hv2, hr2, hk2, hb2, hj2⟩ := collected hv (by omega) hWz hrow hown' hgrow; have hc1 := hv1.cell; have hf1 := hv1.frozen)
      exact ⟨hk2.from _, ⟨hb2, hj2 _ (by omega) (by omega), hj2 _ (by omega) (by omega)⟩, ⟨_, hv2, by simpa using hr2, by have := H4.out; simp; omega⟩, hB.trans hb2, Nat.le_trans hWz hb2.size⟩
  case done =>
    rintro D ys W hD hS ⟨⟨v, hv, hrow, hp4⟩, hB, hWz⟩ hK
    have hc := hv.cell
    gi_wp2
    refine ⟨by simp, .inl ⟨_, _, rfl, run_takeDeferred hK, ?_⟩⟩
    exact ⟨_, results_tmp rfl _ _ _, v, rfl, own_taken (taken ⟨[], by rw [List.append_nil]; exact hS⟩ (Or.inr ⟨by omega, hS⟩)) (own_lower (ownsRow_putObj hrow _ hK rfl) (by omega)), hB.trans (belowK_b (w := w) (Nat.le_refl _) W D _ _ (by simp at hD; omega) hK rfl rfl)⟩
  case stop =>
    rintro D c pre W hD hSp ⟨⟨v, hv, hrow, rfl, h5⟩, hB, hWz⟩ hK
    have hc := hv.cell
    gi_wp2
    refine ⟨by simp, .inl ⟨_, _, rfl, run_takeDeferred hK, ?_⟩⟩
    exact ⟨_, results_tmp rfl _ _ _, v, rfl, own_taken (taken hSp (Or.inl h5)) (own_lower (ownsRow_putObj hrow _ hK rfl) (by omega)), hB.trans (belowK_b (w := w) (Nat.le_refl _) W D _ _ (by simp at hD; omega) hK rfl rfl)⟩
end Go.Proofs.YtegeiicginpdbaaGreatDoor
