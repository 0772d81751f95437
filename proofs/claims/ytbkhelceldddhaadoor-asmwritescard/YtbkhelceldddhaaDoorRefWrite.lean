/-
  A program as text, by the document: what the document's Write returns to a list of steps in memory: the steps' texts, with a semicolon and a blank between, or what its Check returned; the world below is as it was. Conditions: the list's cells hold steps with numbers of 64 bits, the tables lie in memory.
-/
import Derived.Test.YtbkhelceldddhaaDoorWrite
namespace Go.Proofs.YtbkhelceldddhaaDoor
open Go.ChangeShapes Go.WideShapes Go.ChangeAt Go.RowKit

/-! ### The words of each kind of steps -/
theorem words_two {c d s : Int} {r : Bool} {o n : Int} (h1 : 1 ≤ c) (h2 : c ≤ 12) : wordsOf c d s r o n (partsL c).length = [nameB c.toNat, regB d, secondB s r n] := by
  have e : partsL c = [100, 115] := by unfold partsL; rw [if_pos ⟨h1, h2⟩]
  rw [e]; unfold wordsOf; rw [e]; rfl
theorem words_ask {c d s : Int} {r : Bool} {o n : Int} (h1 : 15 ≤ c) (h2 : c ≤ 24) : wordsOf c d s r o n (partsL c).length = [nameB c.toNat, regB d, secondB s r n, numB o] := by
  have e : partsL c = [100, 115, 111] := by unfold partsL; rw [if_neg (by omega), if_pos ⟨h1, h2⟩]
  rw [e]; unfold wordsOf; rw [e]; rfl
theorem words_13 {d s : Int} {r : Bool} {o n : Int} : wordsOf 13 d s r o n (partsL 13).length = [nameB 13, regB d] := rfl
theorem words_14 {d s : Int} {r : Bool} {o n : Int} : wordsOf 14 d s r o n (partsL 14).length = [nameB 14, numB o] := rfl
theorem words_25 {d s : Int} {r : Bool} {o n : Int} : wordsOf 25 d s r o n (partsL 25).length = [nameB 25, regB d, placeB s o] := rfl
theorem words_26 {d s : Int} {r : Bool} {o n : Int} : wordsOf 26 d s r o n (partsL 26).length = [nameB 26, placeB d o, secondB s r n] := rfl
theorem words_27 {d s : Int} {r : Bool} {o n : Int} : wordsOf 27 d s r o n (partsL 27).length = [nameB 27, callB n.toNat] := rfl
theorem words_28 {d s : Int} {r : Bool} {o n : Int} : wordsOf 28 d s r o n (partsL 28).length = [nameB 28] := rfl

/-! ### What is kept in the middle of a round: the step in block b, the row of what is out already -/
structure Mid (a w : World) (b : Nat) (c d s : Int) (r : Bool) (o n : Int) (v : Value) (m : Nat) (xs : List Value) : Prop where
  fine : Fine a w
  room : 9 ≤ a.heap.size
  above : a.heap.size ≤ b
  blk : b < w.heap.size
  cells : w.cell? ⟨b, 0, none⟩ = some (.int .i64 c) ∧ w.cell? ⟨b, 1, none⟩ = some (.int .i64 d) ∧ w.cell? ⟨b, 2, none⟩ = some (.int .i64 s) ∧ w.cell? ⟨b, 3, none⟩ = some (.bool r) ∧ w.cell? ⟨b, 4, none⟩ = some (.int .i64 o) ∧ w.cell? ⟨b, 5, none⟩ = some (.int .i64 n)
  own : w.ownsRow a.heap.size 9 1 v m xs
  lim : ∀ j, v.ownBlock = some j → j < b
section
variable {a w w1 : World} {b : Nat} {c d s : Int} {r : Bool} {o n : Int} {v : Value} {m : Nat} {xs : List Value}
theorem Mid.later (h : Mid a w b c d s r o n v m xs) (hb : Below w.heap.size w w1) : Mid a w1 b c d s r o n v m xs := by
  obtain ⟨e0, e1, e2, e3, e4, e5⟩ := h.cells
  have k := h.blk
  exact ⟨h.fine.call hb, h.room, h.above, Nat.lt_of_lt_of_le k hb.size, ⟨(hb.cell (p := ⟨b, _, none⟩) k).trans e0, (hb.cell (p := ⟨b, _, none⟩) k).trans e1, (hb.cell (p := ⟨b, _, none⟩) k).trans e2, (hb.cell (p := ⟨b, _, none⟩) k).trans e3, (hb.cell (p := ⟨b, _, none⟩) k).trans e4, (hb.cell (p := ⟨b, _, none⟩) k).trans e5⟩, own_later h.own hb, h.lim⟩
theorem Mid.alloc (h : Mid a w b c d s r o n v m xs) (x : Obj) : Mid a (w.alloc x) b c d s r o n v m xs := h.later ((Below.refl _ _).alloc (Nat.le_refl _) x)
theorem Mid.grown {row : Option Nat} (h : Mid a w b c d s r o n v m xs) (hg : w.grownBy w1 row) (hr : ∀ j, row = some j → b < j) : Mid a w1 b c d s r o n v m xs := by
  obtain ⟨e0, e1, e2, e3, e4, e5⟩ := h.cells
  have k := h.blk
  have hbl := hg.block b k (fun e => by have := hr b e.symm; omega)
  have hab := h.above
  refine ⟨h.fine.grown hg (fun j hj => by have := hr j hj; omega) h.room, h.room, h.above, Nat.lt_of_lt_of_le k hg.size, ⟨(World.cell?_of_block (a := ⟨b, _, none⟩) hbl).trans e0, (World.cell?_of_block (a := ⟨b, _, none⟩) hbl).trans e1, (World.cell?_of_block (a := ⟨b, _, none⟩) hbl).trans e2, (World.cell?_of_block (a := ⟨b, _, none⟩) hbl).trans e3, (World.cell?_of_block (a := ⟨b, _, none⟩) hbl).trans e4, (World.cell?_of_block (a := ⟨b, _, none⟩) hbl).trans e5⟩, h.own.kept hg ?_, h.lim⟩
  cases e : v.ownBlock with
  | none => exact Or.inl rfl
  | some j => exact Or.inr fun e2 => by have := h.lim j e; have := hr j e2.symm; omega
end
theorem own_first (w : World) (e : TypeId) (x : Value) (base : Nat) (hb : base ≤ w.heap.size) : (w.alloc (.cells #[x] e)).ownsRow base e 1 (.slice (some ⟨w.heap.size, 0, none⟩) 1 1) 1 [x] :=
  ⟨rfl, .inr ⟨w.heap.size, 1, #[x], rfl, hb, by show (w.heap.push _)[w.heap.size]? = _; simp, Nat.le_refl _, by decide, rfl, rfl⟩⟩
theorem own_low {w : World} {base base' n : Nat} {e : TypeId} {v : Value} {xs : List Value} (h : w.ownsRow base e 1 v n xs) (hb : base' ≤ base) : w.ownsRow base' e 1 v n xs := by
  refine ⟨h.1, ?_⟩
  rcases h.2 with hn | ⟨g, cap, cur, rfl, hg, rest⟩
  · exact .inl hn
  · exact .inr ⟨g, cap, cur, rfl, Nat.le_trans hb hg, rest⟩
theorem own_lim {w : World} {base n : Nat} {e : TypeId} {v : Value} {xs : List Value} (h : w.ownsRow base e 1 v n xs) : ∀ j, v.ownBlock = some j → j < w.heap.size := by
  intro j hj
  rcases h.2 with ⟨rfl, _⟩ | ⟨g, cap, cur, rfl, _, hg, _⟩
  · simp [Value.ownBlock] at hj
  · simp [Value.ownBlock] at hj
    subst hj; exact (Array.getElem?_eq_some_iff.1 hg).1
theorem cells_one {w : World} {x : Value} {e : TypeId} {b : Nat} (hb : b = w.heap.size) : ∀ (j : Nat) u, [x][j]? = some u → (w.alloc (.cells #[x] e)).cell? ((⟨b, 0, none⟩ : Addr).add j) = some u := by
  subst hb
  intro j u hj
  match j, hj with
  | 0, hj => simp at hj; subst hj; simp [Addr.add]
theorem cells_two {w : World} {x y : Value} {e : TypeId} {b : Nat} (hb : b = w.heap.size) : ∀ (j : Nat) u, [x, y][j]? = some u → (w.alloc (.cells #[x, y] e)).cell? ((⟨b, 0, none⟩ : Addr).add j) = some u := by
  subst hb
  intro j u hj
  match j, hj with
  | 0, hj => simp at hj; subst hj; simp [Addr.add]
  | 1, hj => simp at hj; subst hj; simp [Addr.add]
theorem cells_three {w : World} {x y z : Value} {e : TypeId} {b : Nat} (hb : b = w.heap.size) : ∀ (j : Nat) u, [x, y, z][j]? = some u → (w.alloc (.cells #[x, y, z] e)).cell? ((⟨b, 0, none⟩ : Addr).add j) = some u := by
  subst hb
  intro j u hj
  match j, hj with
  | 0, hj => simp at hj; subst hj; simp [Addr.add]
  | 1, hj => simp at hj; subst hj; simp [Addr.add]
  | 2, hj => simp at hj; subst hj; simp [Addr.add]
theorem one_cells (xs : List ByteArray) : ∀ u ∈ xs.map Value.string, u.oneCell' = true := by
  intro u hu
  obtain ⟨x, _, rfl⟩ := List.mem_map.1 hu
  rfl
/-- strings.Join at the words of a step. -/
theorem join_step (c d s : Int) (r : Bool) (o n : Int) (bk m cap base : Nat) (w : World) (hd : Fits d) (hs : Fits s) (ho : Fits o) (hn : Fits n) (hown : w.ownsRow base 9 1 (.slice (some ⟨bk, 0, none⟩) m cap) m ((wordsOf c d s r o n (partsL c).length).map Value.string)) :
    Calls Tryd.prog 20 #[.slice (some ⟨bk, 0, none⟩) m cap, .string ⟨#[32]⟩] w fun e w' => e = .returned (.string (stepB c d s r o n)) ∧ Below w.heap.size w w' :=
  join_any bk m cap base _ _ w hown (by rw [wordsOf_length c d s o n r _ (Nat.le_refl _)]; have := parts_few c; omega) (by decide) (fun x hx => Nat.le_trans (wordsOf_size c d s o n r _ hd hs ho hn x hx) (by decide))

/-! ### The document's Write -/
theorem refWrite_limit (a : Option Addr) (len cap : Nat) (h : len < 1 ∨ 200 < len) (w : World) :
    Calls Tryd.prog 8 #[.slice a len cap] w fun e w' => e = .returned (.tuple #[.string ⟨#[]⟩, .agg #[.int .i64 4, .int .i64 (-1)]]) ∧ Below w.heap.size w w' := by
  go_enter Tryd.func8, Tryd.ntmps8
  go_wp2_with (first | (go_at_call 7; refine (refCheck_limit _ _ _ h _).mono ?_; rintro e w1 ⟨rfl, hb1⟩; obtain ⟨q0, q1, q2, q3, q4⟩ := fault_cells hb1) | go_in)
  go_region
  all_goals (try go_wp2)

  all_goals exact bodyPost_ret (v := .tuple #[.string ⟨#[]⟩, .agg #[.int .i64 4, .int .i64 (-1)]]) (by simp [results, Tryd.results8, go_sem, q0, q1, q4]) rfl ⟨rfl, ((((below_of hb1).setCell (Nat.le_refl _) _).setCell (Nat.le_refl _) _).alloc (by simp; omega) _).drew⟩
theorem strs1 {x : ByteArray} : ∀ u ∈ [Value.string x], u.oneCell' = true := one_cells [x]
theorem strs2 {x y : ByteArray} : ∀ u ∈ [Value.string x, Value.string y], u.oneCell' = true := one_cells [x, y]
theorem strs3 {x y z : ByteArray} : ∀ u ∈ [Value.string x, Value.string y, Value.string z], u.oneCell' = true := one_cells [x, y, z]
section
variable {bk off len cap : Nat} {C D S O N : Nat → Int} {R : Nat → Bool} {w : World}
theorem refWrite_bad {i : Nat} (hi : i < len) (hno : ∀ j, j < i → faultAt len C D S R O N j = 0) (hf : faultAt len C D S R O N i ≠ 0) (hst : StepsAt w bk off len C D S R O N) (h1 : 1 ≤ len) (h2 : len ≤ 200) (hbk : bk < w.heap.size) :
    Calls Tryd.prog 8 #[.slice (some ⟨bk, off, none⟩) len cap] w fun e w' => e = .returned (.tuple #[.string ⟨#[]⟩, .agg #[.int .i64 (faultAt len C D S R O N i), .int .i64 i]]) ∧ Below w.heap.size w w' := by
  have hne : (faultAt len C D S R O N i != 0) = true := by simpa using hf
  have HC := fun (o : Obj) (cap : Nat) => refCheck_bad (cap := cap) hi hno hf (hst.later ((Below.refl _ _).alloc (Nat.le_refl _) o) hbk) h1 h2 (by simp; omega)
  generalize faultAt len C D S R O N i = f at hne HC
  clear hno hf hst
  go_enter Tryd.func8, Tryd.ntmps8
  go_wp2_with (first | (go_at_call 7; refine (HC _ _).mono ?_; rintro e w1 ⟨rfl, hb1⟩; obtain ⟨q0, q1, q2, q3, q4⟩ := fault_cells hb1) | go_in)
  go_region
  all_goals (try go_wp2)
  all_goals exact bodyPost_ret (v := .tuple #[.string ⟨#[]⟩, .agg #[.int .i64 f, .int .i64 i]]) (by simp [results, Tryd.results8, go_sem, q0, q1, q4]) rfl ⟨rfl, ((((below_of hb1).setCell (Nat.le_refl _) _).setCell (Nat.le_refl _) _).alloc (by simp; omega) _).drew⟩
set_option maxRecDepth 100000 in
set_option maxHeartbeats 40000000 in
theorem refWrite_fine (hno : ∀ j, j < len → faultAt len C D S R O N j = 0) (hfit : ∀ i, i < len → Fits (O i) ∧ Fits (N i)) (hst : StepsAt w bk off len C D S R O N) (h1 : 1 ≤ len) (h2 : len ≤ 200) (hbk : bk < w.heap.size) (hT : Tabs w) :
    Calls Tryd.prog 8 #[.slice (some ⟨bk, off, none⟩) len cap] w fun e w' => e = .returned (.tuple #[.string (textB C D S R O N len), .agg #[.int .i64 0, .int .i64 (-1)]]) ∧ Below w.heap.size w w' := by
  have hF := (Fine.start hT).alloc (.cells #[.int .i64 0, .int .i64 0] 29)
  have hFA := Fine.start hF.tabs
  obtain ⟨i0, hi, hz0, hz1, hz2⟩ := info_parts Tryd.infoS
  have HC := fun (o : Obj) (cap : Nat) => refCheck_fine (cap := cap) hno (hst.later ((Below.refl _ _).alloc (Nat.le_refl _) o) hbk) h1 h2 (by simp; omega)
  go_enter Tryd.func8, Tryd.ntmps8
  go_wp2_with (first | (go_at_call 7; refine (HC _ _).mono ?_; rintro e w1 ⟨rfl, hb1⟩) | go_in)
  have hF1 := (hFA.call hb1).alloc (.cells #[.int .i64 0, .int .i64 (-1)] 29)
  go_loopw [5, 20] (fun v i wr => ∃ k : Nat, k ≤ len ∧ i = .int .i64 k ∧ wr.ownsRow (w.alloc (.cells #[.int .i64 0, .int .i64 0] 29)).heap.size 9 1 v k ((textsOf C D S R O N k).map Value.string) ∧ Fine (w.alloc (.cells #[.int .i64 0, .int .i64 0] 29)) wr) (fun _ i _ => len - (intOf i).toNat)
  case atStart => exact ⟨0, Nat.zero_le _, rfl, World.ownsRow_nil _ _ _ _, hF1⟩
  case round =>
    obtain ⟨k, hk, rfl, hown, hFr⟩ := hrel
    by_cases hlt : k < len
    · obtain ⟨g0, g1, g2, g3, g4, g5⟩ := hst.later (below_of hFr.bel) hbk k hlt
      have hsz := hFr.bel.size
      have hbk' : bk < wr.heap.size := by simp at hsz; omega
      obtain ⟨c1, c2, d1, d2, s1, s2, h27⟩ := alone_none (fault_none_alone (hno k hlt))
      have hd := fits_reg d1 d2
      have hs := fits_reg s1 s2
      obtain ⟨ho, hn⟩ := hfit k hlt
      have HT : Hid (textsOf C D S R O N (k + 1) = textsOf C D S R O N k ++ [stepB (C k) (D k) (S k) (R k) (O k) (N k)]) := textsOf_succ C D S O N R k
      have hlim := own_lim hown
      clear hno hfit hst HC d1 d2 s1 s2 hb1 hF1
      generalize C k = c at g0 c1 c2 h27 HT
      generalize D k = d at g1 hd HT
      generalize S k = s at g2 hs HT
      generalize R k = r at g3 HT
      generalize O k = o at g4 ho HT
      generalize N k = n at g5 hn h27 HT
      have zn := numB_size n hn.1 hn.2
      have zd := numB_size d hd.1 hd.2
      have zs := numB_size s hs.1 hs.2
      have zo := numB_size o ho.1 ho.2
      have hM0 : Mid (w.alloc (.cells #[.int .i64 0, .int .i64 0] 29)) (wr.alloc (.cells #[.int .i64 c, .int .i64 d, .int .i64 s, .bool r, .int .i64 o, .int .i64 n] 40)) wr.heap.size c d s r o n u5 k ((textsOf C D S R O N k).map Value.string) :=
        ⟨hFr.alloc _, hF.tabs.room, hsz, by simp, by simp, hown.alloc _, hlim⟩
      rcases (show (1 ≤ c ∧ c ≤ 12) ∨ c = 13 ∨ c = 14 ∨ (15 ≤ c ∧ c ≤ 24) ∨ c = 25 ∨ c = 26 ∨ c = 27 ∨ c = 28 by omega) with ⟨q1, q2⟩ | rfl | rfl | ⟨q1, q2⟩ | rfl | rfl | rfl | rfl
      · obtain ⟨c, rfl⟩ := Int.eq_ofNat_of_zero_le (by omega : 0 ≤ c)
        have x1 : decide (1 ≤ (c : Int)) = true := by simp; omega
        have x2 : decide ((c : Int) ≤ 12) = true := by simp; omega
        have y1 : 1 ≤ c := by omega
        have y2 : c < 29 := by omega
        clear h27
        cases r
        · go_wp2_with (first
            | (go_at_call 17; refine (num_any _ _ (by first | exact hn.1 | exact hd.1 | exact hs.1 | exact ho.1) (by first | exact hn.2 | exact hd.2 | exact hs.2 | exact ho.2) (Mid.fine (by first | assumption | exact Mid.alloc (by assumption) _ | exact Mid.alloc (Mid.alloc (by assumption) _) _)).tabs).mono ?_; rintro e w1 ⟨rfl, hb1⟩; have hM1 := Mid.later (by first | assumption | exact Mid.alloc (by assumption) _ | exact Mid.alloc (Mid.alloc (by assumption) _) _) hb1; obtain ⟨e0, e1, e2, e3, e4, e5⟩ := hM1.cells; have hk1 := hM1.blk; have hw1 := hM1.fine.tabs.words c y1 y2)
            | (at_builtin; refine wpList_append_own _ rfl (.tmp 47) (.tmp 50) 47 rfl (wr.heap.size + 1) 9 i0 (.string ⟨#[]⟩) 1 16 Tryd.underlying47 hi hz0 hz1 hz2 rfl (by decide) _ 1 [.string (nameB c)] rfl (by repeat (first | exact own_first _ _ _ _ (Nat.succ_le_of_lt (by assumption)) | refine World.ownsRow.alloc ?_ _ | refine own_later ?_ (by assumption))) ⟨_, 0, none⟩ 2 2 [.string (regB d), .string (secondB s false n)] rfl rfl (cells_two (by simp)) strs2 (by unfold maxLen; omega) (by decide) (Nat.succ_le_of_lt (Mid.blk (by first | assumption | exact Mid.alloc (by assumption) _ | exact Mid.alloc (Mid.alloc (by assumption) _) _))) ?_; intro v5 w5 hown5 hgrow5 _; have hM5 := Mid.grown (by first | assumption | exact Mid.alloc (by assumption) _ | exact Mid.alloc (Mid.alloc (by assumption) _) _) hgrow5 (fun j hj => Nat.lt_of_lt_of_eq (by assumption) (Option.some.inj hj)); obtain ⟨g5, cp5, rfl⟩ := own_shape hown5 (by decide); have hJ : w5.ownsRow (wr.heap.size + 1) 9 1 (.slice (some ⟨g5, 0, none⟩) 3 cp5) 3 ((wordsOf (c : Int) d s false o n (partsL (c : Int)).length).map Value.string) := by rw [words_two q1 q2]; exact hown5)
            | (go_at_call 20; refine (join_step c d s false o n _ _ _ (wr.heap.size + 1) _ hd hs ho hn (by assumption)).mono ?_; rintro e w6 ⟨rfl, hb6⟩; have hM6 := Mid.later (by first | assumption | exact Mid.alloc (by assumption) _ | exact Mid.alloc (Mid.alloc (by assumption) _) _) hb6)
            | (at_builtin; refine wpList_append_own _ rfl (.tmp 117) (.tmp 120) 47 rfl (w.alloc (.cells #[.int .i64 0, .int .i64 0] 29)).heap.size 9 i0 (.string ⟨#[]⟩) 1 16 Tryd.underlying47 hi hz0 hz1 hz2 rfl (by decide) _ _ _ rfl (hM6.own.alloc _) ⟨_, 0, none⟩ 1 1 [.string (stepB c d s false o n)] rfl rfl (cells_one (by simp)) strs1 (by unfold maxLen; omega) (by omega) (by have := hM6.blk; have := hM6.above; simp at this ⊢; omega) ?_; intro v7 w7 hown7 hgrow7 _)
            | go_in)
          have hF7 : Fine (w.alloc (.cells #[.int .i64 0, .int .i64 0] 29)) w7 := Fine.grown (hM6.fine.alloc _) hgrow7 (own_from hM6.own) (hF.tabs.room)
          have hown8 : w7.ownsRow (w.alloc (.cells #[.int .i64 0, .int .i64 0] 29)).heap.size 9 1 v7 (k + 1) ((textsOf C D S R O N (k + 1)).map Value.string) := by rw [HT.out, List.map_append]; exact hown7
          clear hown7 hgrow7 hb6 hM6 hM0 hown
          go_wp2
          go_roundw
          case rel => exact ⟨k + 1, by omega, by go_num, hown8, hF7⟩
          case measure => simp [intOf]; omega
        · go_wp2_with (first
            | (go_at_call 17; refine (num_any _ _ (by first | exact hn.1 | exact hd.1 | exact hs.1 | exact ho.1) (by first | exact hn.2 | exact hd.2 | exact hs.2 | exact ho.2) (Mid.fine (by first | assumption | exact Mid.alloc (by assumption) _ | exact Mid.alloc (Mid.alloc (by assumption) _) _)).tabs).mono ?_; rintro e w1 ⟨rfl, hb1⟩; have hM1 := Mid.later (by first | assumption | exact Mid.alloc (by assumption) _ | exact Mid.alloc (Mid.alloc (by assumption) _) _) hb1; obtain ⟨e0, e1, e2, e3, e4, e5⟩ := hM1.cells; have hk1 := hM1.blk; have hw1 := hM1.fine.tabs.words c y1 y2)
            | (at_builtin; refine wpList_append_own _ rfl (.tmp 47) (.tmp 50) 47 rfl (wr.heap.size + 1) 9 i0 (.string ⟨#[]⟩) 1 16 Tryd.underlying47 hi hz0 hz1 hz2 rfl (by decide) _ 1 [.string (nameB c)] rfl (by repeat (first | exact own_first _ _ _ _ (Nat.succ_le_of_lt (by assumption)) | refine World.ownsRow.alloc ?_ _ | refine own_later ?_ (by assumption))) ⟨_, 0, none⟩ 2 2 [.string (regB d), .string (secondB s true n)] rfl rfl (cells_two (by simp)) strs2 (by unfold maxLen; omega) (by decide) (Nat.succ_le_of_lt (Mid.blk (by first | assumption | exact Mid.alloc (by assumption) _ | exact Mid.alloc (Mid.alloc (by assumption) _) _))) ?_; intro v5 w5 hown5 hgrow5 _; have hM5 := Mid.grown (by first | assumption | exact Mid.alloc (by assumption) _ | exact Mid.alloc (Mid.alloc (by assumption) _) _) hgrow5 (fun j hj => Nat.lt_of_lt_of_eq (by assumption) (Option.some.inj hj)); obtain ⟨g5, cp5, rfl⟩ := own_shape hown5 (by decide); have hJ : w5.ownsRow (wr.heap.size + 1) 9 1 (.slice (some ⟨g5, 0, none⟩) 3 cp5) 3 ((wordsOf (c : Int) d s true o n (partsL (c : Int)).length).map Value.string) := by rw [words_two q1 q2]; exact hown5)
            | (go_at_call 20; refine (join_step c d s true o n _ _ _ (wr.heap.size + 1) _ hd hs ho hn (by assumption)).mono ?_; rintro e w6 ⟨rfl, hb6⟩; have hM6 := Mid.later (by first | assumption | exact Mid.alloc (by assumption) _ | exact Mid.alloc (Mid.alloc (by assumption) _) _) hb6)
            | (at_builtin; refine wpList_append_own _ rfl (.tmp 117) (.tmp 120) 47 rfl (w.alloc (.cells #[.int .i64 0, .int .i64 0] 29)).heap.size 9 i0 (.string ⟨#[]⟩) 1 16 Tryd.underlying47 hi hz0 hz1 hz2 rfl (by decide) _ _ _ rfl (hM6.own.alloc _) ⟨_, 0, none⟩ 1 1 [.string (stepB c d s true o n)] rfl rfl (cells_one (by simp)) strs1 (by unfold maxLen; omega) (by omega) (by have := hM6.blk; have := hM6.above; simp at this ⊢; omega) ?_; intro v7 w7 hown7 hgrow7 _)
            | go_in)
          have hF7 : Fine (w.alloc (.cells #[.int .i64 0, .int .i64 0] 29)) w7 := Fine.grown (hM6.fine.alloc _) hgrow7 (own_from hM6.own) (hF.tabs.room)
          have hown8 : w7.ownsRow (w.alloc (.cells #[.int .i64 0, .int .i64 0] 29)).heap.size 9 1 v7 (k + 1) ((textsOf C D S R O N (k + 1)).map Value.string) := by rw [HT.out, List.map_append]; exact hown7
          clear hown7 hgrow7 hb6 hM6 hM0 hown
          go_wp2
          go_roundw
          case rel => exact ⟨k + 1, by omega, by go_num, hown8, hF7⟩
          case measure => simp [intOf]; omega
      · clear c1 c2
        clear h27
        cases r
        · go_wp2_with (first
            | (go_at_call 17; refine (num_any _ _ (by first | exact hn.1 | exact hd.1 | exact hs.1 | exact ho.1) (by first | exact hn.2 | exact hd.2 | exact hs.2 | exact ho.2) (Mid.fine (by first | assumption | exact Mid.alloc (by assumption) _ | exact Mid.alloc (Mid.alloc (by assumption) _) _)).tabs).mono ?_; rintro e w1 ⟨rfl, hb1⟩; have hM1 := Mid.later (by first | assumption | exact Mid.alloc (by assumption) _ | exact Mid.alloc (Mid.alloc (by assumption) _) _) hb1; obtain ⟨e0, e1, e2, e3, e4, e5⟩ := hM1.cells; have hk1 := hM1.blk; have hw1 := hM1.fine.tabs.words 13 (by decide) (by decide))
            | (at_builtin; refine wpList_append_own _ rfl (.tmp 56) (.tmp 58) 47 rfl (wr.heap.size + 1) 9 i0 (.string ⟨#[]⟩) 1 16 Tryd.underlying47 hi hz0 hz1 hz2 rfl (by decide) _ 1 [.string (nameB 13)] rfl (by repeat (first | exact own_first _ _ _ _ (Nat.succ_le_of_lt (by assumption)) | refine World.ownsRow.alloc ?_ _ | refine own_later ?_ (by assumption))) ⟨_, 0, none⟩ 1 1 [.string (regB d)] rfl rfl (cells_one (by simp)) strs1 (by unfold maxLen; omega) (by decide) (Nat.succ_le_of_lt (Mid.blk (by first | assumption | exact Mid.alloc (by assumption) _ | exact Mid.alloc (Mid.alloc (by assumption) _) _))) ?_; intro v5 w5 hown5 hgrow5 _; have hM5 := Mid.grown (by first | assumption | exact Mid.alloc (by assumption) _ | exact Mid.alloc (Mid.alloc (by assumption) _) _) hgrow5 (fun j hj => Nat.lt_of_lt_of_eq (by assumption) (Option.some.inj hj)); obtain ⟨g5, cp5, rfl⟩ := own_shape hown5 (by decide); have hJ : w5.ownsRow (wr.heap.size + 1) 9 1 (.slice (some ⟨g5, 0, none⟩) 2 cp5) 2 ((wordsOf 13 d s false o n (partsL 13).length).map Value.string) := by rw [words_13]; exact hown5)
            | (go_at_call 20; refine (join_step 13 d s false o n _ _ _ (wr.heap.size + 1) _ hd hs ho hn (by assumption)).mono ?_; rintro e w6 ⟨rfl, hb6⟩; have hM6 := Mid.later (by first | assumption | exact Mid.alloc (by assumption) _ | exact Mid.alloc (Mid.alloc (by assumption) _) _) hb6)
            | (at_builtin; refine wpList_append_own _ rfl (.tmp 117) (.tmp 120) 47 rfl (w.alloc (.cells #[.int .i64 0, .int .i64 0] 29)).heap.size 9 i0 (.string ⟨#[]⟩) 1 16 Tryd.underlying47 hi hz0 hz1 hz2 rfl (by decide) _ _ _ rfl (hM6.own.alloc _) ⟨_, 0, none⟩ 1 1 [.string (stepB 13 d s false o n)] rfl rfl (cells_one (by simp)) strs1 (by unfold maxLen; omega) (by omega) (by have := hM6.blk; have := hM6.above; simp at this ⊢; omega) ?_; intro v7 w7 hown7 hgrow7 _)
            | go_in)
          have hF7 : Fine (w.alloc (.cells #[.int .i64 0, .int .i64 0] 29)) w7 := Fine.grown (hM6.fine.alloc _) hgrow7 (own_from hM6.own) (hF.tabs.room)
          have hown8 : w7.ownsRow (w.alloc (.cells #[.int .i64 0, .int .i64 0] 29)).heap.size 9 1 v7 (k + 1) ((textsOf C D S R O N (k + 1)).map Value.string) := by rw [HT.out, List.map_append]; exact hown7
          clear hown7 hgrow7 hb6 hM6 hM0 hown
          go_wp2
          go_roundw
          case rel => exact ⟨k + 1, by omega, by go_num, hown8, hF7⟩
          case measure => simp [intOf]; omega
        · go_wp2_with (first
            | (go_at_call 17; refine (num_any _ _ (by first | exact hn.1 | exact hd.1 | exact hs.1 | exact ho.1) (by first | exact hn.2 | exact hd.2 | exact hs.2 | exact ho.2) (Mid.fine (by first | assumption | exact Mid.alloc (by assumption) _ | exact Mid.alloc (Mid.alloc (by assumption) _) _)).tabs).mono ?_; rintro e w1 ⟨rfl, hb1⟩; have hM1 := Mid.later (by first | assumption | exact Mid.alloc (by assumption) _ | exact Mid.alloc (Mid.alloc (by assumption) _) _) hb1; obtain ⟨e0, e1, e2, e3, e4, e5⟩ := hM1.cells; have hk1 := hM1.blk; have hw1 := hM1.fine.tabs.words 13 (by decide) (by decide))
            | (at_builtin; refine wpList_append_own _ rfl (.tmp 56) (.tmp 58) 47 rfl (wr.heap.size + 1) 9 i0 (.string ⟨#[]⟩) 1 16 Tryd.underlying47 hi hz0 hz1 hz2 rfl (by decide) _ 1 [.string (nameB 13)] rfl (by repeat (first | exact own_first _ _ _ _ (Nat.succ_le_of_lt (by assumption)) | refine World.ownsRow.alloc ?_ _ | refine own_later ?_ (by assumption))) ⟨_, 0, none⟩ 1 1 [.string (regB d)] rfl rfl (cells_one (by simp)) strs1 (by unfold maxLen; omega) (by decide) (Nat.succ_le_of_lt (Mid.blk (by first | assumption | exact Mid.alloc (by assumption) _ | exact Mid.alloc (Mid.alloc (by assumption) _) _))) ?_; intro v5 w5 hown5 hgrow5 _; have hM5 := Mid.grown (by first | assumption | exact Mid.alloc (by assumption) _ | exact Mid.alloc (Mid.alloc (by assumption) _) _) hgrow5 (fun j hj => Nat.lt_of_lt_of_eq (by assumption) (Option.some.inj hj)); obtain ⟨g5, cp5, rfl⟩ := own_shape hown5 (by decide); have hJ : w5.ownsRow (wr.heap.size + 1) 9 1 (.slice (some ⟨g5, 0, none⟩) 2 cp5) 2 ((wordsOf 13 d s true o n (partsL 13).length).map Value.string) := by rw [words_13]; exact hown5)
            | (go_at_call 20; refine (join_step 13 d s true o n _ _ _ (wr.heap.size + 1) _ hd hs ho hn (by assumption)).mono ?_; rintro e w6 ⟨rfl, hb6⟩; have hM6 := Mid.later (by first | assumption | exact Mid.alloc (by assumption) _ | exact Mid.alloc (Mid.alloc (by assumption) _) _) hb6)
            | (at_builtin; refine wpList_append_own _ rfl (.tmp 117) (.tmp 120) 47 rfl (w.alloc (.cells #[.int .i64 0, .int .i64 0] 29)).heap.size 9 i0 (.string ⟨#[]⟩) 1 16 Tryd.underlying47 hi hz0 hz1 hz2 rfl (by decide) _ _ _ rfl (hM6.own.alloc _) ⟨_, 0, none⟩ 1 1 [.string (stepB 13 d s true o n)] rfl rfl (cells_one (by simp)) strs1 (by unfold maxLen; omega) (by omega) (by have := hM6.blk; have := hM6.above; simp at this ⊢; omega) ?_; intro v7 w7 hown7 hgrow7 _)
            | go_in)
          have hF7 : Fine (w.alloc (.cells #[.int .i64 0, .int .i64 0] 29)) w7 := Fine.grown (hM6.fine.alloc _) hgrow7 (own_from hM6.own) (hF.tabs.room)
          have hown8 : w7.ownsRow (w.alloc (.cells #[.int .i64 0, .int .i64 0] 29)).heap.size 9 1 v7 (k + 1) ((textsOf C D S R O N (k + 1)).map Value.string) := by rw [HT.out, List.map_append]; exact hown7
          clear hown7 hgrow7 hb6 hM6 hM0 hown
          go_wp2
          go_roundw
          case rel => exact ⟨k + 1, by omega, by go_num, hown8, hF7⟩
          case measure => simp [intOf]; omega
      · clear c1 c2
        clear h27
        cases r
        · go_wp2_with (first
            | (go_at_call 17; refine (num_any _ _ (by first | exact hn.1 | exact hd.1 | exact hs.1 | exact ho.1) (by first | exact hn.2 | exact hd.2 | exact hs.2 | exact ho.2) (Mid.fine (by first | assumption | exact Mid.alloc (by assumption) _ | exact Mid.alloc (Mid.alloc (by assumption) _) _)).tabs).mono ?_; rintro e w1 ⟨rfl, hb1⟩; have hM1 := Mid.later (by first | assumption | exact Mid.alloc (by assumption) _ | exact Mid.alloc (Mid.alloc (by assumption) _) _) hb1; obtain ⟨e0, e1, e2, e3, e4, e5⟩ := hM1.cells; have hk1 := hM1.blk; have hw1 := hM1.fine.tabs.words 14 (by decide) (by decide))
            | (at_builtin; refine wpList_append_own _ rfl (.tmp 64) (.tmp 68) 47 rfl (wr.heap.size + 1) 9 i0 (.string ⟨#[]⟩) 1 16 Tryd.underlying47 hi hz0 hz1 hz2 rfl (by decide) _ 1 [.string (nameB 14)] rfl (by repeat (first | exact own_first _ _ _ _ (Nat.succ_le_of_lt (by assumption)) | refine World.ownsRow.alloc ?_ _ | refine own_later ?_ (by assumption))) ⟨_, 0, none⟩ 1 1 [.string (numB o)] rfl rfl (cells_one (by simp)) strs1 (by unfold maxLen; omega) (by decide) (Nat.succ_le_of_lt (Mid.blk (by first | assumption | exact Mid.alloc (by assumption) _ | exact Mid.alloc (Mid.alloc (by assumption) _) _))) ?_; intro v5 w5 hown5 hgrow5 _; have hM5 := Mid.grown (by first | assumption | exact Mid.alloc (by assumption) _ | exact Mid.alloc (Mid.alloc (by assumption) _) _) hgrow5 (fun j hj => Nat.lt_of_lt_of_eq (by assumption) (Option.some.inj hj)); obtain ⟨g5, cp5, rfl⟩ := own_shape hown5 (by decide); have hJ : w5.ownsRow (wr.heap.size + 1) 9 1 (.slice (some ⟨g5, 0, none⟩) 2 cp5) 2 ((wordsOf 14 d s false o n (partsL 14).length).map Value.string) := by rw [words_14]; exact hown5)
            | (go_at_call 20; refine (join_step 14 d s false o n _ _ _ (wr.heap.size + 1) _ hd hs ho hn (by assumption)).mono ?_; rintro e w6 ⟨rfl, hb6⟩; have hM6 := Mid.later (by first | assumption | exact Mid.alloc (by assumption) _ | exact Mid.alloc (Mid.alloc (by assumption) _) _) hb6)
            | (at_builtin; refine wpList_append_own _ rfl (.tmp 117) (.tmp 120) 47 rfl (w.alloc (.cells #[.int .i64 0, .int .i64 0] 29)).heap.size 9 i0 (.string ⟨#[]⟩) 1 16 Tryd.underlying47 hi hz0 hz1 hz2 rfl (by decide) _ _ _ rfl (hM6.own.alloc _) ⟨_, 0, none⟩ 1 1 [.string (stepB 14 d s false o n)] rfl rfl (cells_one (by simp)) strs1 (by unfold maxLen; omega) (by omega) (by have := hM6.blk; have := hM6.above; simp at this ⊢; omega) ?_; intro v7 w7 hown7 hgrow7 _)
            | go_in)
          have hF7 : Fine (w.alloc (.cells #[.int .i64 0, .int .i64 0] 29)) w7 := Fine.grown (hM6.fine.alloc _) hgrow7 (own_from hM6.own) (hF.tabs.room)
          have hown8 : w7.ownsRow (w.alloc (.cells #[.int .i64 0, .int .i64 0] 29)).heap.size 9 1 v7 (k + 1) ((textsOf C D S R O N (k + 1)).map Value.string) := by rw [HT.out, List.map_append]; exact hown7
          clear hown7 hgrow7 hb6 hM6 hM0 hown
          go_wp2
          go_roundw
          case rel => exact ⟨k + 1, by omega, by go_num, hown8, hF7⟩
          case measure => simp [intOf]; omega
        · go_wp2_with (first
            | (go_at_call 17; refine (num_any _ _ (by first | exact hn.1 | exact hd.1 | exact hs.1 | exact ho.1) (by first | exact hn.2 | exact hd.2 | exact hs.2 | exact ho.2) (Mid.fine (by first | assumption | exact Mid.alloc (by assumption) _ | exact Mid.alloc (Mid.alloc (by assumption) _) _)).tabs).mono ?_; rintro e w1 ⟨rfl, hb1⟩; have hM1 := Mid.later (by first | assumption | exact Mid.alloc (by assumption) _ | exact Mid.alloc (Mid.alloc (by assumption) _) _) hb1; obtain ⟨e0, e1, e2, e3, e4, e5⟩ := hM1.cells; have hk1 := hM1.blk; have hw1 := hM1.fine.tabs.words 14 (by decide) (by decide))
            | (at_builtin; refine wpList_append_own _ rfl (.tmp 64) (.tmp 68) 47 rfl (wr.heap.size + 1) 9 i0 (.string ⟨#[]⟩) 1 16 Tryd.underlying47 hi hz0 hz1 hz2 rfl (by decide) _ 1 [.string (nameB 14)] rfl (by repeat (first | exact own_first _ _ _ _ (Nat.succ_le_of_lt (by assumption)) | refine World.ownsRow.alloc ?_ _ | refine own_later ?_ (by assumption))) ⟨_, 0, none⟩ 1 1 [.string (numB o)] rfl rfl (cells_one (by simp)) strs1 (by unfold maxLen; omega) (by decide) (Nat.succ_le_of_lt (Mid.blk (by first | assumption | exact Mid.alloc (by assumption) _ | exact Mid.alloc (Mid.alloc (by assumption) _) _))) ?_; intro v5 w5 hown5 hgrow5 _; have hM5 := Mid.grown (by first | assumption | exact Mid.alloc (by assumption) _ | exact Mid.alloc (Mid.alloc (by assumption) _) _) hgrow5 (fun j hj => Nat.lt_of_lt_of_eq (by assumption) (Option.some.inj hj)); obtain ⟨g5, cp5, rfl⟩ := own_shape hown5 (by decide); have hJ : w5.ownsRow (wr.heap.size + 1) 9 1 (.slice (some ⟨g5, 0, none⟩) 2 cp5) 2 ((wordsOf 14 d s true o n (partsL 14).length).map Value.string) := by rw [words_14]; exact hown5)
            | (go_at_call 20; refine (join_step 14 d s true o n _ _ _ (wr.heap.size + 1) _ hd hs ho hn (by assumption)).mono ?_; rintro e w6 ⟨rfl, hb6⟩; have hM6 := Mid.later (by first | assumption | exact Mid.alloc (by assumption) _ | exact Mid.alloc (Mid.alloc (by assumption) _) _) hb6)
            | (at_builtin; refine wpList_append_own _ rfl (.tmp 117) (.tmp 120) 47 rfl (w.alloc (.cells #[.int .i64 0, .int .i64 0] 29)).heap.size 9 i0 (.string ⟨#[]⟩) 1 16 Tryd.underlying47 hi hz0 hz1 hz2 rfl (by decide) _ _ _ rfl (hM6.own.alloc _) ⟨_, 0, none⟩ 1 1 [.string (stepB 14 d s true o n)] rfl rfl (cells_one (by simp)) strs1 (by unfold maxLen; omega) (by omega) (by have := hM6.blk; have := hM6.above; simp at this ⊢; omega) ?_; intro v7 w7 hown7 hgrow7 _)
            | go_in)
          have hF7 : Fine (w.alloc (.cells #[.int .i64 0, .int .i64 0] 29)) w7 := Fine.grown (hM6.fine.alloc _) hgrow7 (own_from hM6.own) (hF.tabs.room)
          have hown8 : w7.ownsRow (w.alloc (.cells #[.int .i64 0, .int .i64 0] 29)).heap.size 9 1 v7 (k + 1) ((textsOf C D S R O N (k + 1)).map Value.string) := by rw [HT.out, List.map_append]; exact hown7
          clear hown7 hgrow7 hb6 hM6 hM0 hown
          go_wp2
          go_roundw
          case rel => exact ⟨k + 1, by omega, by go_num, hown8, hF7⟩
          case measure => simp [intOf]; omega
      · obtain ⟨c, rfl⟩ := Int.eq_ofNat_of_zero_le (by omega : 0 ≤ c)
        have x1 : decide (1 ≤ (c : Int)) = true := by simp; omega
        have x2 : decide ((c : Int) ≤ 12) = false := by simp; omega
        have x3 : ((c : Int) == 13) = false := by simp; omega
        have x4 : ((c : Int) == 14) = false := by simp; omega
        have x5 : decide (15 ≤ (c : Int)) = true := by simp; omega
        have x6 : decide ((c : Int) ≤ 24) = true := by simp; omega
        have y1 : 1 ≤ c := by omega
        have y2 : c < 29 := by omega
        clear h27
        cases r
        · go_wp2_with (first
            | (go_at_call 17; refine (num_any _ _ (by first | exact hn.1 | exact hd.1 | exact hs.1 | exact ho.1) (by first | exact hn.2 | exact hd.2 | exact hs.2 | exact ho.2) (Mid.fine (by first | assumption | exact Mid.alloc (by assumption) _ | exact Mid.alloc (Mid.alloc (by assumption) _) _)).tabs).mono ?_; rintro e w1 ⟨rfl, hb1⟩; have hM1 := Mid.later (by first | assumption | exact Mid.alloc (by assumption) _ | exact Mid.alloc (Mid.alloc (by assumption) _) _) hb1; obtain ⟨e0, e1, e2, e3, e4, e5⟩ := hM1.cells; have hk1 := hM1.blk; have hw1 := hM1.fine.tabs.words c y1 y2)
            | (at_builtin; refine wpList_append_own _ rfl (.tmp 74) (.tmp 80) 47 rfl (wr.heap.size + 1) 9 i0 (.string ⟨#[]⟩) 1 16 Tryd.underlying47 hi hz0 hz1 hz2 rfl (by decide) _ 1 [.string (nameB c)] rfl (by repeat (first | exact own_first _ _ _ _ (Nat.succ_le_of_lt (by assumption)) | refine World.ownsRow.alloc ?_ _ | refine own_later ?_ (by assumption))) ⟨_, 0, none⟩ 3 3 [.string (regB d), .string (secondB s false n), .string (numB o)] rfl rfl (cells_three (by simp)) strs3 (by unfold maxLen; omega) (by decide) (Nat.succ_le_of_lt (Mid.blk (by first | assumption | exact Mid.alloc (by assumption) _ | exact Mid.alloc (Mid.alloc (by assumption) _) _))) ?_; intro v5 w5 hown5 hgrow5 _; have hM5 := Mid.grown (by first | assumption | exact Mid.alloc (by assumption) _ | exact Mid.alloc (Mid.alloc (by assumption) _) _) hgrow5 (fun j hj => Nat.lt_of_lt_of_eq (by assumption) (Option.some.inj hj)); obtain ⟨g5, cp5, rfl⟩ := own_shape hown5 (by decide); have hJ : w5.ownsRow (wr.heap.size + 1) 9 1 (.slice (some ⟨g5, 0, none⟩) 4 cp5) 4 ((wordsOf (c : Int) d s false o n (partsL (c : Int)).length).map Value.string) := by rw [words_ask q1 q2]; exact hown5)
            | (go_at_call 20; refine (join_step c d s false o n _ _ _ (wr.heap.size + 1) _ hd hs ho hn (by assumption)).mono ?_; rintro e w6 ⟨rfl, hb6⟩; have hM6 := Mid.later (by first | assumption | exact Mid.alloc (by assumption) _ | exact Mid.alloc (Mid.alloc (by assumption) _) _) hb6)
            | (at_builtin; refine wpList_append_own _ rfl (.tmp 117) (.tmp 120) 47 rfl (w.alloc (.cells #[.int .i64 0, .int .i64 0] 29)).heap.size 9 i0 (.string ⟨#[]⟩) 1 16 Tryd.underlying47 hi hz0 hz1 hz2 rfl (by decide) _ _ _ rfl (hM6.own.alloc _) ⟨_, 0, none⟩ 1 1 [.string (stepB c d s false o n)] rfl rfl (cells_one (by simp)) strs1 (by unfold maxLen; omega) (by omega) (by have := hM6.blk; have := hM6.above; simp at this ⊢; omega) ?_; intro v7 w7 hown7 hgrow7 _)
            | go_in)
          have hF7 : Fine (w.alloc (.cells #[.int .i64 0, .int .i64 0] 29)) w7 := Fine.grown (hM6.fine.alloc _) hgrow7 (own_from hM6.own) (hF.tabs.room)
          have hown8 : w7.ownsRow (w.alloc (.cells #[.int .i64 0, .int .i64 0] 29)).heap.size 9 1 v7 (k + 1) ((textsOf C D S R O N (k + 1)).map Value.string) := by rw [HT.out, List.map_append]; exact hown7
          clear hown7 hgrow7 hb6 hM6 hM0 hown
          go_wp2
          go_roundw
          case rel => exact ⟨k + 1, by omega, by go_num, hown8, hF7⟩
          case measure => simp [intOf]; omega
        · go_wp2_with (first
            | (go_at_call 17; refine (num_any _ _ (by first | exact hn.1 | exact hd.1 | exact hs.1 | exact ho.1) (by first | exact hn.2 | exact hd.2 | exact hs.2 | exact ho.2) (Mid.fine (by first | assumption | exact Mid.alloc (by assumption) _ | exact Mid.alloc (Mid.alloc (by assumption) _) _)).tabs).mono ?_; rintro e w1 ⟨rfl, hb1⟩; have hM1 := Mid.later (by first | assumption | exact Mid.alloc (by assumption) _ | exact Mid.alloc (Mid.alloc (by assumption) _) _) hb1; obtain ⟨e0, e1, e2, e3, e4, e5⟩ := hM1.cells; have hk1 := hM1.blk; have hw1 := hM1.fine.tabs.words c y1 y2)
            | (at_builtin; refine wpList_append_own _ rfl (.tmp 74) (.tmp 80) 47 rfl (wr.heap.size + 1) 9 i0 (.string ⟨#[]⟩) 1 16 Tryd.underlying47 hi hz0 hz1 hz2 rfl (by decide) _ 1 [.string (nameB c)] rfl (by repeat (first | exact own_first _ _ _ _ (Nat.succ_le_of_lt (by assumption)) | refine World.ownsRow.alloc ?_ _ | refine own_later ?_ (by assumption))) ⟨_, 0, none⟩ 3 3 [.string (regB d), .string (secondB s true n), .string (numB o)] rfl rfl (cells_three (by simp)) strs3 (by unfold maxLen; omega) (by decide) (Nat.succ_le_of_lt (Mid.blk (by first | assumption | exact Mid.alloc (by assumption) _ | exact Mid.alloc (Mid.alloc (by assumption) _) _))) ?_; intro v5 w5 hown5 hgrow5 _; have hM5 := Mid.grown (by first | assumption | exact Mid.alloc (by assumption) _ | exact Mid.alloc (Mid.alloc (by assumption) _) _) hgrow5 (fun j hj => Nat.lt_of_lt_of_eq (by assumption) (Option.some.inj hj)); obtain ⟨g5, cp5, rfl⟩ := own_shape hown5 (by decide); have hJ : w5.ownsRow (wr.heap.size + 1) 9 1 (.slice (some ⟨g5, 0, none⟩) 4 cp5) 4 ((wordsOf (c : Int) d s true o n (partsL (c : Int)).length).map Value.string) := by rw [words_ask q1 q2]; exact hown5)
            | (go_at_call 20; refine (join_step c d s true o n _ _ _ (wr.heap.size + 1) _ hd hs ho hn (by assumption)).mono ?_; rintro e w6 ⟨rfl, hb6⟩; have hM6 := Mid.later (by first | assumption | exact Mid.alloc (by assumption) _ | exact Mid.alloc (Mid.alloc (by assumption) _) _) hb6)
            | (at_builtin; refine wpList_append_own _ rfl (.tmp 117) (.tmp 120) 47 rfl (w.alloc (.cells #[.int .i64 0, .int .i64 0] 29)).heap.size 9 i0 (.string ⟨#[]⟩) 1 16 Tryd.underlying47 hi hz0 hz1 hz2 rfl (by decide) _ _ _ rfl (hM6.own.alloc _) ⟨_, 0, none⟩ 1 1 [.string (stepB c d s true o n)] rfl rfl (cells_one (by simp)) strs1 (by unfold maxLen; omega) (by omega) (by have := hM6.blk; have := hM6.above; simp at this ⊢; omega) ?_; intro v7 w7 hown7 hgrow7 _)
            | go_in)
          have hF7 : Fine (w.alloc (.cells #[.int .i64 0, .int .i64 0] 29)) w7 := Fine.grown (hM6.fine.alloc _) hgrow7 (own_from hM6.own) (hF.tabs.room)
          have hown8 : w7.ownsRow (w.alloc (.cells #[.int .i64 0, .int .i64 0] 29)).heap.size 9 1 v7 (k + 1) ((textsOf C D S R O N (k + 1)).map Value.string) := by rw [HT.out, List.map_append]; exact hown7
          clear hown7 hgrow7 hb6 hM6 hM0 hown
          go_wp2
          go_roundw
          case rel => exact ⟨k + 1, by omega, by go_num, hown8, hF7⟩
          case measure => simp [intOf]; omega
      · clear c1 c2
        clear h27
        cases r
        · go_wp2_with (first
            | (go_at_call 17; refine (num_any _ _ (by first | exact hn.1 | exact hd.1 | exact hs.1 | exact ho.1) (by first | exact hn.2 | exact hd.2 | exact hs.2 | exact ho.2) (Mid.fine (by first | assumption | exact Mid.alloc (by assumption) _ | exact Mid.alloc (Mid.alloc (by assumption) _) _)).tabs).mono ?_; rintro e w1 ⟨rfl, hb1⟩; have hM1 := Mid.later (by first | assumption | exact Mid.alloc (by assumption) _ | exact Mid.alloc (Mid.alloc (by assumption) _) _) hb1; obtain ⟨e0, e1, e2, e3, e4, e5⟩ := hM1.cells; have hk1 := hM1.blk; have hw1 := hM1.fine.tabs.words 25 (by decide) (by decide))
            | (go_at_call 18; refine (placed_any _ o _ _ (by first | exact hn.1 | exact hd.1 | exact hs.1 | exact ho.1) (by first | exact hn.2 | exact hd.2 | exact hs.2 | exact ho.2) ho.1 ho.2 (Mid.fine (by first | assumption | exact Mid.alloc (by assumption) _ | exact Mid.alloc (Mid.alloc (by assumption) _) _)).tabs (Mid.blk (by first | assumption | exact Mid.alloc (by assumption) _ | exact Mid.alloc (Mid.alloc (by assumption) _) _)) (Mid.cells (by first | assumption | exact Mid.alloc (by assumption) _ | exact Mid.alloc (Mid.alloc (by assumption) _) _)).2.2.2.2.1).mono ?_; rintro e w1 ⟨rfl, hb1⟩; have hM1 := Mid.later (by first | assumption | exact Mid.alloc (by assumption) _ | exact Mid.alloc (Mid.alloc (by assumption) _) _) hb1)
            | (at_builtin; refine wpList_append_own _ rfl (.tmp 86) (.tmp 92) 47 rfl (wr.heap.size + 1) 9 i0 (.string ⟨#[]⟩) 1 16 Tryd.underlying47 hi hz0 hz1 hz2 rfl (by decide) _ 1 [.string (nameB 25)] rfl (by repeat (first | exact own_first _ _ _ _ (Nat.succ_le_of_lt (by assumption)) | refine World.ownsRow.alloc ?_ _ | refine own_later ?_ (by assumption))) ⟨_, 0, none⟩ 2 2 [.string (regB d), .string (placeB s o)] rfl rfl (cells_two (by simp)) strs2 (by unfold maxLen; omega) (by decide) (Nat.succ_le_of_lt (Mid.blk (by first | assumption | exact Mid.alloc (by assumption) _ | exact Mid.alloc (Mid.alloc (by assumption) _) _))) ?_; intro v5 w5 hown5 hgrow5 _; have hM5 := Mid.grown (by first | assumption | exact Mid.alloc (by assumption) _ | exact Mid.alloc (Mid.alloc (by assumption) _) _) hgrow5 (fun j hj => Nat.lt_of_lt_of_eq (by assumption) (Option.some.inj hj)); obtain ⟨g5, cp5, rfl⟩ := own_shape hown5 (by decide); have hJ : w5.ownsRow (wr.heap.size + 1) 9 1 (.slice (some ⟨g5, 0, none⟩) 3 cp5) 3 ((wordsOf 25 d s false o n (partsL 25).length).map Value.string) := by rw [words_25]; exact hown5)
            | (go_at_call 20; refine (join_step 25 d s false o n _ _ _ (wr.heap.size + 1) _ hd hs ho hn (by assumption)).mono ?_; rintro e w6 ⟨rfl, hb6⟩; have hM6 := Mid.later (by first | assumption | exact Mid.alloc (by assumption) _ | exact Mid.alloc (Mid.alloc (by assumption) _) _) hb6)
            | (at_builtin; refine wpList_append_own _ rfl (.tmp 117) (.tmp 120) 47 rfl (w.alloc (.cells #[.int .i64 0, .int .i64 0] 29)).heap.size 9 i0 (.string ⟨#[]⟩) 1 16 Tryd.underlying47 hi hz0 hz1 hz2 rfl (by decide) _ _ _ rfl (hM6.own.alloc _) ⟨_, 0, none⟩ 1 1 [.string (stepB 25 d s false o n)] rfl rfl (cells_one (by simp)) strs1 (by unfold maxLen; omega) (by omega) (by have := hM6.blk; have := hM6.above; simp at this ⊢; omega) ?_; intro v7 w7 hown7 hgrow7 _)
            | go_in)
          have hF7 : Fine (w.alloc (.cells #[.int .i64 0, .int .i64 0] 29)) w7 := Fine.grown (hM6.fine.alloc _) hgrow7 (own_from hM6.own) (hF.tabs.room)
          have hown8 : w7.ownsRow (w.alloc (.cells #[.int .i64 0, .int .i64 0] 29)).heap.size 9 1 v7 (k + 1) ((textsOf C D S R O N (k + 1)).map Value.string) := by rw [HT.out, List.map_append]; exact hown7
          clear hown7 hgrow7 hb6 hM6 hM0 hown
          go_wp2
          go_roundw
          case rel => exact ⟨k + 1, by omega, by go_num, hown8, hF7⟩
          case measure => simp [intOf]; omega
        · go_wp2_with (first
            | (go_at_call 17; refine (num_any _ _ (by first | exact hn.1 | exact hd.1 | exact hs.1 | exact ho.1) (by first | exact hn.2 | exact hd.2 | exact hs.2 | exact ho.2) (Mid.fine (by first | assumption | exact Mid.alloc (by assumption) _ | exact Mid.alloc (Mid.alloc (by assumption) _) _)).tabs).mono ?_; rintro e w1 ⟨rfl, hb1⟩; have hM1 := Mid.later (by first | assumption | exact Mid.alloc (by assumption) _ | exact Mid.alloc (Mid.alloc (by assumption) _) _) hb1; obtain ⟨e0, e1, e2, e3, e4, e5⟩ := hM1.cells; have hk1 := hM1.blk; have hw1 := hM1.fine.tabs.words 25 (by decide) (by decide))
            | (go_at_call 18; refine (placed_any _ o _ _ (by first | exact hn.1 | exact hd.1 | exact hs.1 | exact ho.1) (by first | exact hn.2 | exact hd.2 | exact hs.2 | exact ho.2) ho.1 ho.2 (Mid.fine (by first | assumption | exact Mid.alloc (by assumption) _ | exact Mid.alloc (Mid.alloc (by assumption) _) _)).tabs (Mid.blk (by first | assumption | exact Mid.alloc (by assumption) _ | exact Mid.alloc (Mid.alloc (by assumption) _) _)) (Mid.cells (by first | assumption | exact Mid.alloc (by assumption) _ | exact Mid.alloc (Mid.alloc (by assumption) _) _)).2.2.2.2.1).mono ?_; rintro e w1 ⟨rfl, hb1⟩; have hM1 := Mid.later (by first | assumption | exact Mid.alloc (by assumption) _ | exact Mid.alloc (Mid.alloc (by assumption) _) _) hb1)
            | (at_builtin; refine wpList_append_own _ rfl (.tmp 86) (.tmp 92) 47 rfl (wr.heap.size + 1) 9 i0 (.string ⟨#[]⟩) 1 16 Tryd.underlying47 hi hz0 hz1 hz2 rfl (by decide) _ 1 [.string (nameB 25)] rfl (by repeat (first | exact own_first _ _ _ _ (Nat.succ_le_of_lt (by assumption)) | refine World.ownsRow.alloc ?_ _ | refine own_later ?_ (by assumption))) ⟨_, 0, none⟩ 2 2 [.string (regB d), .string (placeB s o)] rfl rfl (cells_two (by simp)) strs2 (by unfold maxLen; omega) (by decide) (Nat.succ_le_of_lt (Mid.blk (by first | assumption | exact Mid.alloc (by assumption) _ | exact Mid.alloc (Mid.alloc (by assumption) _) _))) ?_; intro v5 w5 hown5 hgrow5 _; have hM5 := Mid.grown (by first | assumption | exact Mid.alloc (by assumption) _ | exact Mid.alloc (Mid.alloc (by assumption) _) _) hgrow5 (fun j hj => Nat.lt_of_lt_of_eq (by assumption) (Option.some.inj hj)); obtain ⟨g5, cp5, rfl⟩ := own_shape hown5 (by decide); have hJ : w5.ownsRow (wr.heap.size + 1) 9 1 (.slice (some ⟨g5, 0, none⟩) 3 cp5) 3 ((wordsOf 25 d s true o n (partsL 25).length).map Value.string) := by rw [words_25]; exact hown5)
            | (go_at_call 20; refine (join_step 25 d s true o n _ _ _ (wr.heap.size + 1) _ hd hs ho hn (by assumption)).mono ?_; rintro e w6 ⟨rfl, hb6⟩; have hM6 := Mid.later (by first | assumption | exact Mid.alloc (by assumption) _ | exact Mid.alloc (Mid.alloc (by assumption) _) _) hb6)
            | (at_builtin; refine wpList_append_own _ rfl (.tmp 117) (.tmp 120) 47 rfl (w.alloc (.cells #[.int .i64 0, .int .i64 0] 29)).heap.size 9 i0 (.string ⟨#[]⟩) 1 16 Tryd.underlying47 hi hz0 hz1 hz2 rfl (by decide) _ _ _ rfl (hM6.own.alloc _) ⟨_, 0, none⟩ 1 1 [.string (stepB 25 d s true o n)] rfl rfl (cells_one (by simp)) strs1 (by unfold maxLen; omega) (by omega) (by have := hM6.blk; have := hM6.above; simp at this ⊢; omega) ?_; intro v7 w7 hown7 hgrow7 _)
            | go_in)
          have hF7 : Fine (w.alloc (.cells #[.int .i64 0, .int .i64 0] 29)) w7 := Fine.grown (hM6.fine.alloc _) hgrow7 (own_from hM6.own) (hF.tabs.room)
          have hown8 : w7.ownsRow (w.alloc (.cells #[.int .i64 0, .int .i64 0] 29)).heap.size 9 1 v7 (k + 1) ((textsOf C D S R O N (k + 1)).map Value.string) := by rw [HT.out, List.map_append]; exact hown7
          clear hown7 hgrow7 hb6 hM6 hM0 hown
          go_wp2
          go_roundw
          case rel => exact ⟨k + 1, by omega, by go_num, hown8, hF7⟩
          case measure => simp [intOf]; omega
      · clear c1 c2
        clear h27
        cases r
        · go_wp2_with (first
            | (go_at_call 17; refine (num_any _ _ (by first | exact hn.1 | exact hd.1 | exact hs.1 | exact ho.1) (by first | exact hn.2 | exact hd.2 | exact hs.2 | exact ho.2) (Mid.fine (by first | assumption | exact Mid.alloc (by assumption) _ | exact Mid.alloc (Mid.alloc (by assumption) _) _)).tabs).mono ?_; rintro e w1 ⟨rfl, hb1⟩; have hM1 := Mid.later (by first | assumption | exact Mid.alloc (by assumption) _ | exact Mid.alloc (Mid.alloc (by assumption) _) _) hb1; obtain ⟨e0, e1, e2, e3, e4, e5⟩ := hM1.cells; have hk1 := hM1.blk; have hw1 := hM1.fine.tabs.words 26 (by decide) (by decide))
            | (go_at_call 18; refine (placed_any _ o _ _ (by first | exact hn.1 | exact hd.1 | exact hs.1 | exact ho.1) (by first | exact hn.2 | exact hd.2 | exact hs.2 | exact ho.2) ho.1 ho.2 (Mid.fine (by first | assumption | exact Mid.alloc (by assumption) _ | exact Mid.alloc (Mid.alloc (by assumption) _) _)).tabs (Mid.blk (by first | assumption | exact Mid.alloc (by assumption) _ | exact Mid.alloc (Mid.alloc (by assumption) _) _)) (Mid.cells (by first | assumption | exact Mid.alloc (by assumption) _ | exact Mid.alloc (Mid.alloc (by assumption) _) _)).2.2.2.2.1).mono ?_; rintro e w1 ⟨rfl, hb1⟩; have hM1 := Mid.later (by first | assumption | exact Mid.alloc (by assumption) _ | exact Mid.alloc (Mid.alloc (by assumption) _) _) hb1)
            | (at_builtin; refine wpList_append_own _ rfl (.tmp 98) (.tmp 104) 47 rfl (wr.heap.size + 1) 9 i0 (.string ⟨#[]⟩) 1 16 Tryd.underlying47 hi hz0 hz1 hz2 rfl (by decide) _ 1 [.string (nameB 26)] rfl (by repeat (first | exact own_first _ _ _ _ (Nat.succ_le_of_lt (by assumption)) | refine World.ownsRow.alloc ?_ _ | refine own_later ?_ (by assumption))) ⟨_, 0, none⟩ 2 2 [.string (placeB d o), .string (secondB s false n)] rfl rfl (cells_two (by simp)) strs2 (by unfold maxLen; omega) (by decide) (Nat.succ_le_of_lt (Mid.blk (by first | assumption | exact Mid.alloc (by assumption) _ | exact Mid.alloc (Mid.alloc (by assumption) _) _))) ?_; intro v5 w5 hown5 hgrow5 _; have hM5 := Mid.grown (by first | assumption | exact Mid.alloc (by assumption) _ | exact Mid.alloc (Mid.alloc (by assumption) _) _) hgrow5 (fun j hj => Nat.lt_of_lt_of_eq (by assumption) (Option.some.inj hj)); obtain ⟨g5, cp5, rfl⟩ := own_shape hown5 (by decide); have hJ : w5.ownsRow (wr.heap.size + 1) 9 1 (.slice (some ⟨g5, 0, none⟩) 3 cp5) 3 ((wordsOf 26 d s false o n (partsL 26).length).map Value.string) := by rw [words_26]; exact hown5)
            | (go_at_call 20; refine (join_step 26 d s false o n _ _ _ (wr.heap.size + 1) _ hd hs ho hn (by assumption)).mono ?_; rintro e w6 ⟨rfl, hb6⟩; have hM6 := Mid.later (by first | assumption | exact Mid.alloc (by assumption) _ | exact Mid.alloc (Mid.alloc (by assumption) _) _) hb6)
            | (at_builtin; refine wpList_append_own _ rfl (.tmp 117) (.tmp 120) 47 rfl (w.alloc (.cells #[.int .i64 0, .int .i64 0] 29)).heap.size 9 i0 (.string ⟨#[]⟩) 1 16 Tryd.underlying47 hi hz0 hz1 hz2 rfl (by decide) _ _ _ rfl (hM6.own.alloc _) ⟨_, 0, none⟩ 1 1 [.string (stepB 26 d s false o n)] rfl rfl (cells_one (by simp)) strs1 (by unfold maxLen; omega) (by omega) (by have := hM6.blk; have := hM6.above; simp at this ⊢; omega) ?_; intro v7 w7 hown7 hgrow7 _)
            | go_in)
          have hF7 : Fine (w.alloc (.cells #[.int .i64 0, .int .i64 0] 29)) w7 := Fine.grown (hM6.fine.alloc _) hgrow7 (own_from hM6.own) (hF.tabs.room)
          have hown8 : w7.ownsRow (w.alloc (.cells #[.int .i64 0, .int .i64 0] 29)).heap.size 9 1 v7 (k + 1) ((textsOf C D S R O N (k + 1)).map Value.string) := by rw [HT.out, List.map_append]; exact hown7
          clear hown7 hgrow7 hb6 hM6 hM0 hown
          go_wp2
          go_roundw
          case rel => exact ⟨k + 1, by omega, by go_num, hown8, hF7⟩
          case measure => simp [intOf]; omega
        · go_wp2_with (first
            | (go_at_call 17; refine (num_any _ _ (by first | exact hn.1 | exact hd.1 | exact hs.1 | exact ho.1) (by first | exact hn.2 | exact hd.2 | exact hs.2 | exact ho.2) (Mid.fine (by first | assumption | exact Mid.alloc (by assumption) _ | exact Mid.alloc (Mid.alloc (by assumption) _) _)).tabs).mono ?_; rintro e w1 ⟨rfl, hb1⟩; have hM1 := Mid.later (by first | assumption | exact Mid.alloc (by assumption) _ | exact Mid.alloc (Mid.alloc (by assumption) _) _) hb1; obtain ⟨e0, e1, e2, e3, e4, e5⟩ := hM1.cells; have hk1 := hM1.blk; have hw1 := hM1.fine.tabs.words 26 (by decide) (by decide))
            | (go_at_call 18; refine (placed_any _ o _ _ (by first | exact hn.1 | exact hd.1 | exact hs.1 | exact ho.1) (by first | exact hn.2 | exact hd.2 | exact hs.2 | exact ho.2) ho.1 ho.2 (Mid.fine (by first | assumption | exact Mid.alloc (by assumption) _ | exact Mid.alloc (Mid.alloc (by assumption) _) _)).tabs (Mid.blk (by first | assumption | exact Mid.alloc (by assumption) _ | exact Mid.alloc (Mid.alloc (by assumption) _) _)) (Mid.cells (by first | assumption | exact Mid.alloc (by assumption) _ | exact Mid.alloc (Mid.alloc (by assumption) _) _)).2.2.2.2.1).mono ?_; rintro e w1 ⟨rfl, hb1⟩; have hM1 := Mid.later (by first | assumption | exact Mid.alloc (by assumption) _ | exact Mid.alloc (Mid.alloc (by assumption) _) _) hb1)
            | (at_builtin; refine wpList_append_own _ rfl (.tmp 98) (.tmp 104) 47 rfl (wr.heap.size + 1) 9 i0 (.string ⟨#[]⟩) 1 16 Tryd.underlying47 hi hz0 hz1 hz2 rfl (by decide) _ 1 [.string (nameB 26)] rfl (by repeat (first | exact own_first _ _ _ _ (Nat.succ_le_of_lt (by assumption)) | refine World.ownsRow.alloc ?_ _ | refine own_later ?_ (by assumption))) ⟨_, 0, none⟩ 2 2 [.string (placeB d o), .string (secondB s true n)] rfl rfl (cells_two (by simp)) strs2 (by unfold maxLen; omega) (by decide) (Nat.succ_le_of_lt (Mid.blk (by first | assumption | exact Mid.alloc (by assumption) _ | exact Mid.alloc (Mid.alloc (by assumption) _) _))) ?_; intro v5 w5 hown5 hgrow5 _; have hM5 := Mid.grown (by first | assumption | exact Mid.alloc (by assumption) _ | exact Mid.alloc (Mid.alloc (by assumption) _) _) hgrow5 (fun j hj => Nat.lt_of_lt_of_eq (by assumption) (Option.some.inj hj)); obtain ⟨g5, cp5, rfl⟩ := own_shape hown5 (by decide); have hJ : w5.ownsRow (wr.heap.size + 1) 9 1 (.slice (some ⟨g5, 0, none⟩) 3 cp5) 3 ((wordsOf 26 d s true o n (partsL 26).length).map Value.string) := by rw [words_26]; exact hown5)
            | (go_at_call 20; refine (join_step 26 d s true o n _ _ _ (wr.heap.size + 1) _ hd hs ho hn (by assumption)).mono ?_; rintro e w6 ⟨rfl, hb6⟩; have hM6 := Mid.later (by first | assumption | exact Mid.alloc (by assumption) _ | exact Mid.alloc (Mid.alloc (by assumption) _) _) hb6)
            | (at_builtin; refine wpList_append_own _ rfl (.tmp 117) (.tmp 120) 47 rfl (w.alloc (.cells #[.int .i64 0, .int .i64 0] 29)).heap.size 9 i0 (.string ⟨#[]⟩) 1 16 Tryd.underlying47 hi hz0 hz1 hz2 rfl (by decide) _ _ _ rfl (hM6.own.alloc _) ⟨_, 0, none⟩ 1 1 [.string (stepB 26 d s true o n)] rfl rfl (cells_one (by simp)) strs1 (by unfold maxLen; omega) (by omega) (by have := hM6.blk; have := hM6.above; simp at this ⊢; omega) ?_; intro v7 w7 hown7 hgrow7 _)
            | go_in)
          have hF7 : Fine (w.alloc (.cells #[.int .i64 0, .int .i64 0] 29)) w7 := Fine.grown (hM6.fine.alloc _) hgrow7 (own_from hM6.own) (hF.tabs.room)
          have hown8 : w7.ownsRow (w.alloc (.cells #[.int .i64 0, .int .i64 0] 29)).heap.size 9 1 v7 (k + 1) ((textsOf C D S R O N (k + 1)).map Value.string) := by rw [HT.out, List.map_append]; exact hown7
          clear hown7 hgrow7 hb6 hM6 hM0 hown
          go_wp2
          go_roundw
          case rel => exact ⟨k + 1, by omega, by go_num, hown8, hF7⟩
          case measure => simp [intOf]; omega
      · clear c1 c2
        cases r
        · rcases h27 rfl with rfl | rfl | rfl
          · clear h27
            go_wp2_with (first
              | (go_at_call 17; refine (num_any _ _ (by first | exact hn.1 | exact hd.1 | exact hs.1 | exact ho.1) (by first | exact hn.2 | exact hd.2 | exact hs.2 | exact ho.2) (Mid.fine (by first | assumption | exact Mid.alloc (by assumption) _ | exact Mid.alloc (Mid.alloc (by assumption) _) _)).tabs).mono ?_; rintro e w1 ⟨rfl, hb1⟩; have hM1 := Mid.later (by first | assumption | exact Mid.alloc (by assumption) _ | exact Mid.alloc (Mid.alloc (by assumption) _) _) hb1; obtain ⟨e0, e1, e2, e3, e4, e5⟩ := hM1.cells; have hk1 := hM1.blk; have hw1 := hM1.fine.tabs.words 27 (by decide) (by decide); have hv1 := hM1.fine.tabs.called 1 (by decide) (by decide); have hr1 : 1 < w1.heap.size := Nat.lt_of_lt_of_le (by decide) hM1.fine.tabs.room)
              | (at_builtin; refine wpList_append_own _ rfl (.tmp 110) (.tmp 115) 47 rfl (wr.heap.size + 1) 9 i0 (.string ⟨#[]⟩) 1 16 Tryd.underlying47 hi hz0 hz1 hz2 rfl (by decide) _ 1 [.string (nameB 27)] rfl (by repeat (first | exact own_first _ _ _ _ (Nat.succ_le_of_lt (by assumption)) | refine World.ownsRow.alloc ?_ _ | refine own_later ?_ (by assumption))) ⟨_, 0, none⟩ 1 1 [.string (callB 1)] rfl rfl (cells_one (by simp)) strs1 (by unfold maxLen; omega) (by decide) (Nat.succ_le_of_lt (Mid.blk (by first | assumption | exact Mid.alloc (by assumption) _ | exact Mid.alloc (Mid.alloc (by assumption) _) _))) ?_; intro v5 w5 hown5 hgrow5 _; have hM5 := Mid.grown (by first | assumption | exact Mid.alloc (by assumption) _ | exact Mid.alloc (Mid.alloc (by assumption) _) _) hgrow5 (fun j hj => Nat.lt_of_lt_of_eq (by assumption) (Option.some.inj hj)); obtain ⟨g5, cp5, rfl⟩ := own_shape hown5 (by decide); have hJ : w5.ownsRow (wr.heap.size + 1) 9 1 (.slice (some ⟨g5, 0, none⟩) 2 cp5) 2 ((wordsOf 27 d s false o 1 (partsL 27).length).map Value.string) := by rw [words_27]; exact hown5)
              | (go_at_call 20; refine (join_step 27 d s false o 1 _ _ _ (wr.heap.size + 1) _ hd hs ho hn (by assumption)).mono ?_; rintro e w6 ⟨rfl, hb6⟩; have hM6 := Mid.later (by first | assumption | exact Mid.alloc (by assumption) _ | exact Mid.alloc (Mid.alloc (by assumption) _) _) hb6)
              | (at_builtin; refine wpList_append_own _ rfl (.tmp 117) (.tmp 120) 47 rfl (w.alloc (.cells #[.int .i64 0, .int .i64 0] 29)).heap.size 9 i0 (.string ⟨#[]⟩) 1 16 Tryd.underlying47 hi hz0 hz1 hz2 rfl (by decide) _ _ _ rfl (hM6.own.alloc _) ⟨_, 0, none⟩ 1 1 [.string (stepB 27 d s false o 1)] rfl rfl (cells_one (by simp)) strs1 (by unfold maxLen; omega) (by omega) (by have := hM6.blk; have := hM6.above; simp at this ⊢; omega) ?_; intro v7 w7 hown7 hgrow7 _)
              | go_in)
            have hF7 : Fine (w.alloc (.cells #[.int .i64 0, .int .i64 0] 29)) w7 := Fine.grown (hM6.fine.alloc _) hgrow7 (own_from hM6.own) (hF.tabs.room)
            have hown8 : w7.ownsRow (w.alloc (.cells #[.int .i64 0, .int .i64 0] 29)).heap.size 9 1 v7 (k + 1) ((textsOf C D S R O N (k + 1)).map Value.string) := by rw [HT.out, List.map_append]; exact hown7
            clear hown7 hgrow7 hb6 hM6 hM0 hown
            go_wp2
            go_roundw
            case rel => exact ⟨k + 1, by omega, by go_num, hown8, hF7⟩
            case measure => simp [intOf]; omega
          · clear h27
            go_wp2_with (first
              | (go_at_call 17; refine (num_any _ _ (by first | exact hn.1 | exact hd.1 | exact hs.1 | exact ho.1) (by first | exact hn.2 | exact hd.2 | exact hs.2 | exact ho.2) (Mid.fine (by first | assumption | exact Mid.alloc (by assumption) _ | exact Mid.alloc (Mid.alloc (by assumption) _) _)).tabs).mono ?_; rintro e w1 ⟨rfl, hb1⟩; have hM1 := Mid.later (by first | assumption | exact Mid.alloc (by assumption) _ | exact Mid.alloc (Mid.alloc (by assumption) _) _) hb1; obtain ⟨e0, e1, e2, e3, e4, e5⟩ := hM1.cells; have hk1 := hM1.blk; have hw1 := hM1.fine.tabs.words 27 (by decide) (by decide); have hv1 := hM1.fine.tabs.called 2 (by decide) (by decide); have hr1 : 1 < w1.heap.size := Nat.lt_of_lt_of_le (by decide) hM1.fine.tabs.room)
              | (at_builtin; refine wpList_append_own _ rfl (.tmp 110) (.tmp 115) 47 rfl (wr.heap.size + 1) 9 i0 (.string ⟨#[]⟩) 1 16 Tryd.underlying47 hi hz0 hz1 hz2 rfl (by decide) _ 1 [.string (nameB 27)] rfl (by repeat (first | exact own_first _ _ _ _ (Nat.succ_le_of_lt (by assumption)) | refine World.ownsRow.alloc ?_ _ | refine own_later ?_ (by assumption))) ⟨_, 0, none⟩ 1 1 [.string (callB 2)] rfl rfl (cells_one (by simp)) strs1 (by unfold maxLen; omega) (by decide) (Nat.succ_le_of_lt (Mid.blk (by first | assumption | exact Mid.alloc (by assumption) _ | exact Mid.alloc (Mid.alloc (by assumption) _) _))) ?_; intro v5 w5 hown5 hgrow5 _; have hM5 := Mid.grown (by first | assumption | exact Mid.alloc (by assumption) _ | exact Mid.alloc (Mid.alloc (by assumption) _) _) hgrow5 (fun j hj => Nat.lt_of_lt_of_eq (by assumption) (Option.some.inj hj)); obtain ⟨g5, cp5, rfl⟩ := own_shape hown5 (by decide); have hJ : w5.ownsRow (wr.heap.size + 1) 9 1 (.slice (some ⟨g5, 0, none⟩) 2 cp5) 2 ((wordsOf 27 d s false o 2 (partsL 27).length).map Value.string) := by rw [words_27]; exact hown5)
              | (go_at_call 20; refine (join_step 27 d s false o 2 _ _ _ (wr.heap.size + 1) _ hd hs ho hn (by assumption)).mono ?_; rintro e w6 ⟨rfl, hb6⟩; have hM6 := Mid.later (by first | assumption | exact Mid.alloc (by assumption) _ | exact Mid.alloc (Mid.alloc (by assumption) _) _) hb6)
              | (at_builtin; refine wpList_append_own _ rfl (.tmp 117) (.tmp 120) 47 rfl (w.alloc (.cells #[.int .i64 0, .int .i64 0] 29)).heap.size 9 i0 (.string ⟨#[]⟩) 1 16 Tryd.underlying47 hi hz0 hz1 hz2 rfl (by decide) _ _ _ rfl (hM6.own.alloc _) ⟨_, 0, none⟩ 1 1 [.string (stepB 27 d s false o 2)] rfl rfl (cells_one (by simp)) strs1 (by unfold maxLen; omega) (by omega) (by have := hM6.blk; have := hM6.above; simp at this ⊢; omega) ?_; intro v7 w7 hown7 hgrow7 _)
              | go_in)
            have hF7 : Fine (w.alloc (.cells #[.int .i64 0, .int .i64 0] 29)) w7 := Fine.grown (hM6.fine.alloc _) hgrow7 (own_from hM6.own) (hF.tabs.room)
            have hown8 : w7.ownsRow (w.alloc (.cells #[.int .i64 0, .int .i64 0] 29)).heap.size 9 1 v7 (k + 1) ((textsOf C D S R O N (k + 1)).map Value.string) := by rw [HT.out, List.map_append]; exact hown7
            clear hown7 hgrow7 hb6 hM6 hM0 hown
            go_wp2
            go_roundw
            case rel => exact ⟨k + 1, by omega, by go_num, hown8, hF7⟩
            case measure => simp [intOf]; omega
          · clear h27
            go_wp2_with (first
              | (go_at_call 17; refine (num_any _ _ (by first | exact hn.1 | exact hd.1 | exact hs.1 | exact ho.1) (by first | exact hn.2 | exact hd.2 | exact hs.2 | exact ho.2) (Mid.fine (by first | assumption | exact Mid.alloc (by assumption) _ | exact Mid.alloc (Mid.alloc (by assumption) _) _)).tabs).mono ?_; rintro e w1 ⟨rfl, hb1⟩; have hM1 := Mid.later (by first | assumption | exact Mid.alloc (by assumption) _ | exact Mid.alloc (Mid.alloc (by assumption) _) _) hb1; obtain ⟨e0, e1, e2, e3, e4, e5⟩ := hM1.cells; have hk1 := hM1.blk; have hw1 := hM1.fine.tabs.words 27 (by decide) (by decide); have hv1 := hM1.fine.tabs.called 3 (by decide) (by decide); have hr1 : 1 < w1.heap.size := Nat.lt_of_lt_of_le (by decide) hM1.fine.tabs.room)
              | (at_builtin; refine wpList_append_own _ rfl (.tmp 110) (.tmp 115) 47 rfl (wr.heap.size + 1) 9 i0 (.string ⟨#[]⟩) 1 16 Tryd.underlying47 hi hz0 hz1 hz2 rfl (by decide) _ 1 [.string (nameB 27)] rfl (by repeat (first | exact own_first _ _ _ _ (Nat.succ_le_of_lt (by assumption)) | refine World.ownsRow.alloc ?_ _ | refine own_later ?_ (by assumption))) ⟨_, 0, none⟩ 1 1 [.string (callB 3)] rfl rfl (cells_one (by simp)) strs1 (by unfold maxLen; omega) (by decide) (Nat.succ_le_of_lt (Mid.blk (by first | assumption | exact Mid.alloc (by assumption) _ | exact Mid.alloc (Mid.alloc (by assumption) _) _))) ?_; intro v5 w5 hown5 hgrow5 _; have hM5 := Mid.grown (by first | assumption | exact Mid.alloc (by assumption) _ | exact Mid.alloc (Mid.alloc (by assumption) _) _) hgrow5 (fun j hj => Nat.lt_of_lt_of_eq (by assumption) (Option.some.inj hj)); obtain ⟨g5, cp5, rfl⟩ := own_shape hown5 (by decide); have hJ : w5.ownsRow (wr.heap.size + 1) 9 1 (.slice (some ⟨g5, 0, none⟩) 2 cp5) 2 ((wordsOf 27 d s false o 3 (partsL 27).length).map Value.string) := by rw [words_27]; exact hown5)
              | (go_at_call 20; refine (join_step 27 d s false o 3 _ _ _ (wr.heap.size + 1) _ hd hs ho hn (by assumption)).mono ?_; rintro e w6 ⟨rfl, hb6⟩; have hM6 := Mid.later (by first | assumption | exact Mid.alloc (by assumption) _ | exact Mid.alloc (Mid.alloc (by assumption) _) _) hb6)
              | (at_builtin; refine wpList_append_own _ rfl (.tmp 117) (.tmp 120) 47 rfl (w.alloc (.cells #[.int .i64 0, .int .i64 0] 29)).heap.size 9 i0 (.string ⟨#[]⟩) 1 16 Tryd.underlying47 hi hz0 hz1 hz2 rfl (by decide) _ _ _ rfl (hM6.own.alloc _) ⟨_, 0, none⟩ 1 1 [.string (stepB 27 d s false o 3)] rfl rfl (cells_one (by simp)) strs1 (by unfold maxLen; omega) (by omega) (by have := hM6.blk; have := hM6.above; simp at this ⊢; omega) ?_; intro v7 w7 hown7 hgrow7 _)
              | go_in)
            have hF7 : Fine (w.alloc (.cells #[.int .i64 0, .int .i64 0] 29)) w7 := Fine.grown (hM6.fine.alloc _) hgrow7 (own_from hM6.own) (hF.tabs.room)
            have hown8 : w7.ownsRow (w.alloc (.cells #[.int .i64 0, .int .i64 0] 29)).heap.size 9 1 v7 (k + 1) ((textsOf C D S R O N (k + 1)).map Value.string) := by rw [HT.out, List.map_append]; exact hown7
            clear hown7 hgrow7 hb6 hM6 hM0 hown
            go_wp2
            go_roundw
            case rel => exact ⟨k + 1, by omega, by go_num, hown8, hF7⟩
            case measure => simp [intOf]; omega
        · rcases h27 rfl with rfl | rfl | rfl
          · clear h27
            go_wp2_with (first
              | (go_at_call 17; refine (num_any _ _ (by first | exact hn.1 | exact hd.1 | exact hs.1 | exact ho.1) (by first | exact hn.2 | exact hd.2 | exact hs.2 | exact ho.2) (Mid.fine (by first | assumption | exact Mid.alloc (by assumption) _ | exact Mid.alloc (Mid.alloc (by assumption) _) _)).tabs).mono ?_; rintro e w1 ⟨rfl, hb1⟩; have hM1 := Mid.later (by first | assumption | exact Mid.alloc (by assumption) _ | exact Mid.alloc (Mid.alloc (by assumption) _) _) hb1; obtain ⟨e0, e1, e2, e3, e4, e5⟩ := hM1.cells; have hk1 := hM1.blk; have hw1 := hM1.fine.tabs.words 27 (by decide) (by decide); have hv1 := hM1.fine.tabs.called 1 (by decide) (by decide); have hr1 : 1 < w1.heap.size := Nat.lt_of_lt_of_le (by decide) hM1.fine.tabs.room)
              | (at_builtin; refine wpList_append_own _ rfl (.tmp 110) (.tmp 115) 47 rfl (wr.heap.size + 1) 9 i0 (.string ⟨#[]⟩) 1 16 Tryd.underlying47 hi hz0 hz1 hz2 rfl (by decide) _ 1 [.string (nameB 27)] rfl (by repeat (first | exact own_first _ _ _ _ (Nat.succ_le_of_lt (by assumption)) | refine World.ownsRow.alloc ?_ _ | refine own_later ?_ (by assumption))) ⟨_, 0, none⟩ 1 1 [.string (callB 1)] rfl rfl (cells_one (by simp)) strs1 (by unfold maxLen; omega) (by decide) (Nat.succ_le_of_lt (Mid.blk (by first | assumption | exact Mid.alloc (by assumption) _ | exact Mid.alloc (Mid.alloc (by assumption) _) _))) ?_; intro v5 w5 hown5 hgrow5 _; have hM5 := Mid.grown (by first | assumption | exact Mid.alloc (by assumption) _ | exact Mid.alloc (Mid.alloc (by assumption) _) _) hgrow5 (fun j hj => Nat.lt_of_lt_of_eq (by assumption) (Option.some.inj hj)); obtain ⟨g5, cp5, rfl⟩ := own_shape hown5 (by decide); have hJ : w5.ownsRow (wr.heap.size + 1) 9 1 (.slice (some ⟨g5, 0, none⟩) 2 cp5) 2 ((wordsOf 27 d s true o 1 (partsL 27).length).map Value.string) := by rw [words_27]; exact hown5)
              | (go_at_call 20; refine (join_step 27 d s true o 1 _ _ _ (wr.heap.size + 1) _ hd hs ho hn (by assumption)).mono ?_; rintro e w6 ⟨rfl, hb6⟩; have hM6 := Mid.later (by first | assumption | exact Mid.alloc (by assumption) _ | exact Mid.alloc (Mid.alloc (by assumption) _) _) hb6)
              | (at_builtin; refine wpList_append_own _ rfl (.tmp 117) (.tmp 120) 47 rfl (w.alloc (.cells #[.int .i64 0, .int .i64 0] 29)).heap.size 9 i0 (.string ⟨#[]⟩) 1 16 Tryd.underlying47 hi hz0 hz1 hz2 rfl (by decide) _ _ _ rfl (hM6.own.alloc _) ⟨_, 0, none⟩ 1 1 [.string (stepB 27 d s true o 1)] rfl rfl (cells_one (by simp)) strs1 (by unfold maxLen; omega) (by omega) (by have := hM6.blk; have := hM6.above; simp at this ⊢; omega) ?_; intro v7 w7 hown7 hgrow7 _)
              | go_in)
            have hF7 : Fine (w.alloc (.cells #[.int .i64 0, .int .i64 0] 29)) w7 := Fine.grown (hM6.fine.alloc _) hgrow7 (own_from hM6.own) (hF.tabs.room)
            have hown8 : w7.ownsRow (w.alloc (.cells #[.int .i64 0, .int .i64 0] 29)).heap.size 9 1 v7 (k + 1) ((textsOf C D S R O N (k + 1)).map Value.string) := by rw [HT.out, List.map_append]; exact hown7
            clear hown7 hgrow7 hb6 hM6 hM0 hown
            go_wp2
            go_roundw
            case rel => exact ⟨k + 1, by omega, by go_num, hown8, hF7⟩
            case measure => simp [intOf]; omega
          · clear h27
            go_wp2_with (first
              | (go_at_call 17; refine (num_any _ _ (by first | exact hn.1 | exact hd.1 | exact hs.1 | exact ho.1) (by first | exact hn.2 | exact hd.2 | exact hs.2 | exact ho.2) (Mid.fine (by first | assumption | exact Mid.alloc (by assumption) _ | exact Mid.alloc (Mid.alloc (by assumption) _) _)).tabs).mono ?_; rintro e w1 ⟨rfl, hb1⟩; have hM1 := Mid.later (by first | assumption | exact Mid.alloc (by assumption) _ | exact Mid.alloc (Mid.alloc (by assumption) _) _) hb1; obtain ⟨e0, e1, e2, e3, e4, e5⟩ := hM1.cells; have hk1 := hM1.blk; have hw1 := hM1.fine.tabs.words 27 (by decide) (by decide); have hv1 := hM1.fine.tabs.called 2 (by decide) (by decide); have hr1 : 1 < w1.heap.size := Nat.lt_of_lt_of_le (by decide) hM1.fine.tabs.room)
              | (at_builtin; refine wpList_append_own _ rfl (.tmp 110) (.tmp 115) 47 rfl (wr.heap.size + 1) 9 i0 (.string ⟨#[]⟩) 1 16 Tryd.underlying47 hi hz0 hz1 hz2 rfl (by decide) _ 1 [.string (nameB 27)] rfl (by repeat (first | exact own_first _ _ _ _ (Nat.succ_le_of_lt (by assumption)) | refine World.ownsRow.alloc ?_ _ | refine own_later ?_ (by assumption))) ⟨_, 0, none⟩ 1 1 [.string (callB 2)] rfl rfl (cells_one (by simp)) strs1 (by unfold maxLen; omega) (by decide) (Nat.succ_le_of_lt (Mid.blk (by first | assumption | exact Mid.alloc (by assumption) _ | exact Mid.alloc (Mid.alloc (by assumption) _) _))) ?_; intro v5 w5 hown5 hgrow5 _; have hM5 := Mid.grown (by first | assumption | exact Mid.alloc (by assumption) _ | exact Mid.alloc (Mid.alloc (by assumption) _) _) hgrow5 (fun j hj => Nat.lt_of_lt_of_eq (by assumption) (Option.some.inj hj)); obtain ⟨g5, cp5, rfl⟩ := own_shape hown5 (by decide); have hJ : w5.ownsRow (wr.heap.size + 1) 9 1 (.slice (some ⟨g5, 0, none⟩) 2 cp5) 2 ((wordsOf 27 d s true o 2 (partsL 27).length).map Value.string) := by rw [words_27]; exact hown5)
              | (go_at_call 20; refine (join_step 27 d s true o 2 _ _ _ (wr.heap.size + 1) _ hd hs ho hn (by assumption)).mono ?_; rintro e w6 ⟨rfl, hb6⟩; have hM6 := Mid.later (by first | assumption | exact Mid.alloc (by assumption) _ | exact Mid.alloc (Mid.alloc (by assumption) _) _) hb6)
              | (at_builtin; refine wpList_append_own _ rfl (.tmp 117) (.tmp 120) 47 rfl (w.alloc (.cells #[.int .i64 0, .int .i64 0] 29)).heap.size 9 i0 (.string ⟨#[]⟩) 1 16 Tryd.underlying47 hi hz0 hz1 hz2 rfl (by decide) _ _ _ rfl (hM6.own.alloc _) ⟨_, 0, none⟩ 1 1 [.string (stepB 27 d s true o 2)] rfl rfl (cells_one (by simp)) strs1 (by unfold maxLen; omega) (by omega) (by have := hM6.blk; have := hM6.above; simp at this ⊢; omega) ?_; intro v7 w7 hown7 hgrow7 _)
              | go_in)
            have hF7 : Fine (w.alloc (.cells #[.int .i64 0, .int .i64 0] 29)) w7 := Fine.grown (hM6.fine.alloc _) hgrow7 (own_from hM6.own) (hF.tabs.room)
            have hown8 : w7.ownsRow (w.alloc (.cells #[.int .i64 0, .int .i64 0] 29)).heap.size 9 1 v7 (k + 1) ((textsOf C D S R O N (k + 1)).map Value.string) := by rw [HT.out, List.map_append]; exact hown7
            clear hown7 hgrow7 hb6 hM6 hM0 hown
            go_wp2
            go_roundw
            case rel => exact ⟨k + 1, by omega, by go_num, hown8, hF7⟩
            case measure => simp [intOf]; omega
          · clear h27
            go_wp2_with (first
              | (go_at_call 17; refine (num_any _ _ (by first | exact hn.1 | exact hd.1 | exact hs.1 | exact ho.1) (by first | exact hn.2 | exact hd.2 | exact hs.2 | exact ho.2) (Mid.fine (by first | assumption | exact Mid.alloc (by assumption) _ | exact Mid.alloc (Mid.alloc (by assumption) _) _)).tabs).mono ?_; rintro e w1 ⟨rfl, hb1⟩; have hM1 := Mid.later (by first | assumption | exact Mid.alloc (by assumption) _ | exact Mid.alloc (Mid.alloc (by assumption) _) _) hb1; obtain ⟨e0, e1, e2, e3, e4, e5⟩ := hM1.cells; have hk1 := hM1.blk; have hw1 := hM1.fine.tabs.words 27 (by decide) (by decide); have hv1 := hM1.fine.tabs.called 3 (by decide) (by decide); have hr1 : 1 < w1.heap.size := Nat.lt_of_lt_of_le (by decide) hM1.fine.tabs.room)
              | (at_builtin; refine wpList_append_own _ rfl (.tmp 110) (.tmp 115) 47 rfl (wr.heap.size + 1) 9 i0 (.string ⟨#[]⟩) 1 16 Tryd.underlying47 hi hz0 hz1 hz2 rfl (by decide) _ 1 [.string (nameB 27)] rfl (by repeat (first | exact own_first _ _ _ _ (Nat.succ_le_of_lt (by assumption)) | refine World.ownsRow.alloc ?_ _ | refine own_later ?_ (by assumption))) ⟨_, 0, none⟩ 1 1 [.string (callB 3)] rfl rfl (cells_one (by simp)) strs1 (by unfold maxLen; omega) (by decide) (Nat.succ_le_of_lt (Mid.blk (by first | assumption | exact Mid.alloc (by assumption) _ | exact Mid.alloc (Mid.alloc (by assumption) _) _))) ?_; intro v5 w5 hown5 hgrow5 _; have hM5 := Mid.grown (by first | assumption | exact Mid.alloc (by assumption) _ | exact Mid.alloc (Mid.alloc (by assumption) _) _) hgrow5 (fun j hj => Nat.lt_of_lt_of_eq (by assumption) (Option.some.inj hj)); obtain ⟨g5, cp5, rfl⟩ := own_shape hown5 (by decide); have hJ : w5.ownsRow (wr.heap.size + 1) 9 1 (.slice (some ⟨g5, 0, none⟩) 2 cp5) 2 ((wordsOf 27 d s true o 3 (partsL 27).length).map Value.string) := by rw [words_27]; exact hown5)
              | (go_at_call 20; refine (join_step 27 d s true o 3 _ _ _ (wr.heap.size + 1) _ hd hs ho hn (by assumption)).mono ?_; rintro e w6 ⟨rfl, hb6⟩; have hM6 := Mid.later (by first | assumption | exact Mid.alloc (by assumption) _ | exact Mid.alloc (Mid.alloc (by assumption) _) _) hb6)
              | (at_builtin; refine wpList_append_own _ rfl (.tmp 117) (.tmp 120) 47 rfl (w.alloc (.cells #[.int .i64 0, .int .i64 0] 29)).heap.size 9 i0 (.string ⟨#[]⟩) 1 16 Tryd.underlying47 hi hz0 hz1 hz2 rfl (by decide) _ _ _ rfl (hM6.own.alloc _) ⟨_, 0, none⟩ 1 1 [.string (stepB 27 d s true o 3)] rfl rfl (cells_one (by simp)) strs1 (by unfold maxLen; omega) (by omega) (by have := hM6.blk; have := hM6.above; simp at this ⊢; omega) ?_; intro v7 w7 hown7 hgrow7 _)
              | go_in)
            have hF7 : Fine (w.alloc (.cells #[.int .i64 0, .int .i64 0] 29)) w7 := Fine.grown (hM6.fine.alloc _) hgrow7 (own_from hM6.own) (hF.tabs.room)
            have hown8 : w7.ownsRow (w.alloc (.cells #[.int .i64 0, .int .i64 0] 29)).heap.size 9 1 v7 (k + 1) ((textsOf C D S R O N (k + 1)).map Value.string) := by rw [HT.out, List.map_append]; exact hown7
            clear hown7 hgrow7 hb6 hM6 hM0 hown
            go_wp2
            go_roundw
            case rel => exact ⟨k + 1, by omega, by go_num, hown8, hF7⟩
            case measure => simp [intOf]; omega
      · clear c1 c2
        clear h27
        cases r
        · go_wp2_with (first
            | (go_at_call 17; refine (num_any _ _ (by first | exact hn.1 | exact hd.1 | exact hs.1 | exact ho.1) (by first | exact hn.2 | exact hd.2 | exact hs.2 | exact ho.2) (Mid.fine (by first | assumption | exact Mid.alloc (by assumption) _ | exact Mid.alloc (Mid.alloc (by assumption) _) _)).tabs).mono ?_; rintro e w1 ⟨rfl, hb1⟩; have hM1 := Mid.later (by first | assumption | exact Mid.alloc (by assumption) _ | exact Mid.alloc (Mid.alloc (by assumption) _) _) hb1; obtain ⟨e0, e1, e2, e3, e4, e5⟩ := hM1.cells; have hk1 := hM1.blk; have hw1 := hM1.fine.tabs.words 28 (by decide) (by decide))
            | (go_at_call 20; refine (join_step 28 d s false o n _ _ _ (wr.heap.size + 1) _ hd hs ho hn (show World.ownsRow _ (wr.heap.size + 1) 9 1 _ 1 [.string (nameB 28)] from by exact own_first _ _ _ _ (Nat.succ_le_of_lt (by assumption)))).mono ?_; rintro e w6 ⟨rfl, hb6⟩; have hM6 := Mid.later (by first | assumption | exact Mid.alloc (by assumption) _ | exact Mid.alloc (Mid.alloc (by assumption) _) _) hb6)
            | (at_builtin; refine wpList_append_own _ rfl (.tmp 117) (.tmp 120) 47 rfl (w.alloc (.cells #[.int .i64 0, .int .i64 0] 29)).heap.size 9 i0 (.string ⟨#[]⟩) 1 16 Tryd.underlying47 hi hz0 hz1 hz2 rfl (by decide) _ _ _ rfl (hM6.own.alloc _) ⟨_, 0, none⟩ 1 1 [.string (stepB 28 d s false o n)] rfl rfl (cells_one (by simp)) strs1 (by unfold maxLen; omega) (by omega) (by have := hM6.blk; have := hM6.above; simp at this ⊢; omega) ?_; intro v7 w7 hown7 hgrow7 _)
            | go_in)
          have hF7 : Fine (w.alloc (.cells #[.int .i64 0, .int .i64 0] 29)) w7 := Fine.grown (hM6.fine.alloc _) hgrow7 (own_from hM6.own) (hF.tabs.room)
          have hown8 : w7.ownsRow (w.alloc (.cells #[.int .i64 0, .int .i64 0] 29)).heap.size 9 1 v7 (k + 1) ((textsOf C D S R O N (k + 1)).map Value.string) := by rw [HT.out, List.map_append]; exact hown7
          clear hown7 hgrow7 hb6 hM6 hM0 hown
          go_wp2
          go_roundw
          case rel => exact ⟨k + 1, by omega, by go_num, hown8, hF7⟩
          case measure => simp [intOf]; omega
        · go_wp2_with (first
            | (go_at_call 17; refine (num_any _ _ (by first | exact hn.1 | exact hd.1 | exact hs.1 | exact ho.1) (by first | exact hn.2 | exact hd.2 | exact hs.2 | exact ho.2) (Mid.fine (by first | assumption | exact Mid.alloc (by assumption) _ | exact Mid.alloc (Mid.alloc (by assumption) _) _)).tabs).mono ?_; rintro e w1 ⟨rfl, hb1⟩; have hM1 := Mid.later (by first | assumption | exact Mid.alloc (by assumption) _ | exact Mid.alloc (Mid.alloc (by assumption) _) _) hb1; obtain ⟨e0, e1, e2, e3, e4, e5⟩ := hM1.cells; have hk1 := hM1.blk; have hw1 := hM1.fine.tabs.words 28 (by decide) (by decide))
            | (go_at_call 20; refine (join_step 28 d s true o n _ _ _ (wr.heap.size + 1) _ hd hs ho hn (show World.ownsRow _ (wr.heap.size + 1) 9 1 _ 1 [.string (nameB 28)] from by exact own_first _ _ _ _ (Nat.succ_le_of_lt (by assumption)))).mono ?_; rintro e w6 ⟨rfl, hb6⟩; have hM6 := Mid.later (by first | assumption | exact Mid.alloc (by assumption) _ | exact Mid.alloc (Mid.alloc (by assumption) _) _) hb6)
            | (at_builtin; refine wpList_append_own _ rfl (.tmp 117) (.tmp 120) 47 rfl (w.alloc (.cells #[.int .i64 0, .int .i64 0] 29)).heap.size 9 i0 (.string ⟨#[]⟩) 1 16 Tryd.underlying47 hi hz0 hz1 hz2 rfl (by decide) _ _ _ rfl (hM6.own.alloc _) ⟨_, 0, none⟩ 1 1 [.string (stepB 28 d s true o n)] rfl rfl (cells_one (by simp)) strs1 (by unfold maxLen; omega) (by omega) (by have := hM6.blk; have := hM6.above; simp at this ⊢; omega) ?_; intro v7 w7 hown7 hgrow7 _)
            | go_in)
          have hF7 : Fine (w.alloc (.cells #[.int .i64 0, .int .i64 0] 29)) w7 := Fine.grown (hM6.fine.alloc _) hgrow7 (own_from hM6.own) (hF.tabs.room)
          have hown8 : w7.ownsRow (w.alloc (.cells #[.int .i64 0, .int .i64 0] 29)).heap.size 9 1 v7 (k + 1) ((textsOf C D S R O N (k + 1)).map Value.string) := by rw [HT.out, List.map_append]; exact hown7
          clear hown7 hgrow7 hb6 hM6 hM0 hown
          go_wp2
          go_roundw
          case rel => exact ⟨k + 1, by omega, by go_num, hown8, hF7⟩
          case measure => simp [intOf]; omega
    · have hkk : k = len := by omega
      subst hkk
      obtain ⟨g, cp, hv⟩ := own_shape hown (by omega)
      subst hv
      have hwl := textsOf_length C D S O N R k
      have hwz : ∀ x ∈ textsOf C D S R O N k, x.size ≤ 49998 := fun x hx => Nat.le_trans (textsOf_size hno hfit x hx) (by decide)
      clear HC hst
      go_wp2_with (first | (go_at_call 20; refine (join_any g _ cp _ _ _ _ hown (by omega) (by decide) hwz).mono ?_; rintro e w2 ⟨rfl, hb2⟩; have hF2 := hFr.call hb2) | (go_at_call 14; refine (bare_any _ _).mono ?_; rintro e w3 ⟨rfl, hb3⟩; have hF3 := hF2.call hb3; obtain ⟨q0, q1, q2, q3, q4⟩ := fault_cells hF3.bel))
      exact bodyPost_ret (v := .tuple #[.string (textB C D S R O N k), .agg #[.int .i64 0, .int .i64 (-1)]]) (by simp [results, Tryd.results8, go_sem, q0, q1]; rfl) rfl ⟨rfl, ((below_of hF3.bel).setCell (Nat.le_refl _) _).setCell (Nat.le_refl _) _⟩
end
end Go.Proofs.YtbkhelceldddhaaDoor
