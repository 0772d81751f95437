/-
  What asm.read returns: the step that a text tells, or that it tells none; the world below is as it was. Conditions: the tables lie in memory, the library's two errors are errors, the text is short.
-/
import Derived.Test.YtegeiicginpdbaaGreatDoorCut
import Derived.Test.YtegeiicginpdbaaGreatDoorCheck
namespace Go.Proofs.YtegeiicginpdbaaGreatDoor
open Go.ChangeShapes Go.WideShapes Go.ChangeAt Go.RowKit
variable {ex : Ext}

def St.zero : St := ⟨0, 0, 0, false, 0, 0⟩
/-- The words behind a name, put one by one. -/
def putAll (x : St) : List UInt8 → List ByteArray → Option St
  | p :: ps, b :: bs => if (x.put p.toNat b).1 then putAll (x.put p.toNat b).2 ps bs else none
  | _, _ => some x
/-- The step that words tell. -/
def stepOf : List ByteArray → Option St
  | [] => none
  | b :: bs => if codeOf b = 0 ∨ bs.length ≠ (partsL (codeOf b)).length then none else putAll { St.zero with c := codeOf b } (partsL (codeOf b)) bs
theorem stepOf_cons (b : ByteArray) (bs : List ByteArray) : stepOf (b :: bs) = if codeOf b = 0 ∨ bs.length ≠ (partsL (codeOf b)).length then none else putAll { St.zero with c := codeOf b } (partsL (codeOf b)) bs := rfl
def stepV : Option St → Value
  | some x => .tuple #[.agg x.cells, .bool true]
  | none => .tuple #[.agg St.zero.cells, .bool false]
theorem own_empty {w : World} {base : Nat} {e : TypeId} {v : Value} {xs : List Value} (h : w.ownsRow base e 1 v 0 xs) : ∃ a c, v = .slice a 0 c := by
  rcases h.2 with ⟨rfl, _⟩ | ⟨g, cap, cur, rfl, _⟩
  · exact ⟨_, _, rfl⟩
  · exact ⟨_, _, rfl⟩
theorem codeOf_lt (b : ByteArray) : codeOf b < 29 := by
  unfold codeOf
  cases h : (List.range 29).find? fun k : Nat => decide (nameB k = b) with
  | none => decide
  | some k => exact List.mem_range.1 (List.mem_of_find?_eq_some h)
theorem fields_size (s : ByteArray) : ∀ (f : Nat) (st : Option Nat) (i : Nat), ∀ x ∈ fieldsFrom s f st i, x.size ≤ s.size
  | 0, st, _, x, hx => by
    cases st with
    | none => simp [fieldsFrom, lastOf] at hx
    | some a => simp [fieldsFrom, lastOf] at hx; subst hx; rw [ByteArray.size_extract]; omega
  | f + 1, st, i, x, hx => by
    by_cases h : i < s.size
    · by_cases hr : (Lib.decodeGo (s.extract i s.size)).1 = 32
      · cases st with
        | none => rw [fields_blank_none h hr] at hx; exact fields_size s f _ _ x hx
        | some a =>
          rw [fields_blank h hr] at hx
          rcases List.mem_cons.1 hx with rfl | hx
          · rw [ByteArray.size_extract]; omega
          · exact fields_size s f _ _ x hx
      · rw [fields_word h hr] at hx; exact fields_size s f _ _ x hx
    · rw [fields_end h] at hx
      cases st with
      | none => simp [lastOf] at hx
      | some a => simp [lastOf] at hx; subst hx; rw [ByteArray.size_extract]; omega
theorem StepIs.iter {w : World} {b k pos pos' : Nat} {p : ByteArray} {x : St} (h : StepIs w b x) (hit : w.heap[k]? = some (.stringIter p pos)) : StepIs (w.iterAt k p pos') b x := by
  have h' : w.heap[b]? = some (.cells x.cells 49 (0, 0)) := h
  show (w.iterAt k p pos').heap[b]? = _
  rw [Lib.iterAt_other w k b p pos' (fun e => by rw [e, hit] at h'; cases h')]; exact h'
/-- The six cells of a result that is nothing yet. -/
def ZeroAt (w : World) (b : Nat) : Prop := w.cell? ⟨b, 0, none⟩ = some (.int .i64 0) ∧ w.cell? ⟨b, 1, none⟩ = some (.int .i64 0) ∧ w.cell? ⟨b, 2, none⟩ = some (.int .i64 0) ∧ w.cell? ⟨b, 3, none⟩ = some (.bool false) ∧ w.cell? ⟨b, 4, none⟩ = some (.int .i64 0) ∧ w.cell? ⟨b, 5, none⟩ = some (.int .i64 0)
  ∧ w.frozen? ⟨b, 0, none⟩ = false ∧ w.frozen? ⟨b, 1, none⟩ = false ∧ w.frozen? ⟨b, 2, none⟩ = false ∧ w.frozen? ⟨b, 3, none⟩ = false ∧ w.frozen? ⟨b, 4, none⟩ = false ∧ w.frozen? ⟨b, 5, none⟩ = false
theorem zeroAt_of {w : World} {b : Nat} (h : StepIs w b St.zero) : ZeroAt w b := ⟨h.cell 0, h.cell 1, h.cell 2, h.cell 3, h.cell 4, h.cell 5, h.frozen 0, h.frozen 1, h.frozen 2, h.frozen 3, h.frozen 4, h.frozen 5⟩
theorem zero_new (w : World) : StepIs (w.alloc (.cells St.zero.cells 49)) w.heap.size St.zero := by
  show (w.heap.push _)[w.heap.size]? = _
  simp
section
set_option maxHeartbeats 4000000 in
theorem read1_any (he : ∀ w, ex.holds w → ErrTabs w) (hu : ∀ w, ex.holds w → Lib.Utf8Tabs 7 8 w) (s : ByteArray) (hs : s.size ≤ 100000) (w : World) (hT : Tabs ex w) :
    Calls Tryz.prog 28 #[.string s] w fun e w' => e = .returned (stepV (stepOf ((fieldsOf s).take 5))) ∧ Below w.heap.size w w' := by
  have hF := Fine.start hT
  have hF0 := hF.alloc (.cells St.zero.cells 49)
  cases hws : (fieldsOf s).take 5 with
  | nil =>
    go_enter Tryz.func28, Tryz.ntmps28
    go_wp2_with (first
      | (go_at_call 52; refine (cut_any hu s hs _ hF0.tabs).mono ?_; rintro e w1 ⟨v, rfl, hown, hb1⟩; rw [hws] at hown; obtain ⟨a, c, rfl⟩ := own_empty hown; have hz1 := (zero_new w).later hb1; have hlt := hz1.lt; obtain ⟨q0, q1, q2, q3, q4, q5, z0, z1, z2, z3, z4, z5⟩ := zeroAt_of hz1)
      | go_in)
    exact bodyPost_ret (v := .tuple #[.agg St.zero.cells, .bool false]) (by simp [results, Tryz.results28, go_sem, hlt, q0, q1, q2, q3, q4, q5, St.cells, St.zero]) rfl
      ⟨rfl, (((((((below_of hb1).setCell (Nat.le_refl _) _).setCell (Nat.le_refl _) _).setCell (Nat.le_refl _) _).setCell (Nat.le_refl _) _).setCell (Nat.le_refl _) _).setCell (Nat.le_refl _) _).alloc (by simp; omega) _⟩
  | cons b bs =>
    have x0 : ((bs.length : Int) + 1 == 0) = false := by simp; omega
    have hbl : bs.length ≤ 4 := by
      have := List.length_take_le 5 (fieldsOf s)
      rw [hws] at this; simp at this; omega
    have hcod : codeOf b < 29 := codeOf_lt b
    have hps := partsB_size (codeOf b)
    have hpf := parts_few (codeOf b)
    obtain ⟨c, hc⟩ : ∃ c, c = codeOf b := ⟨_, rfl⟩
    have HC : Hid (c = codeOf b) := hc
    rw [← hc] at hcod hps hpf
    clear hc
    have hpz : (partsB c).size ≤ 3 := by omega
    have HPS : Hid ((partsB c).size = (partsL c).length) := hps
    clear hps
    by_cases hbad : c = 0 ∨ bs.length ≠ (partsL c).length
    · have HN : Hid (stepV (stepOf (b :: bs)) = .tuple #[.agg St.zero.cells, .bool false]) := by
        show stepV (stepOf (b :: bs)) = _
        rw [stepOf_cons, ← HC.out, if_pos hbad]; rfl
      by_cases hc0 : c = 0
      · have hq0 : ((c : Int) == 0) = true := by simp [hc0]
        clear hbad hc0
        go_enter Tryz.func28, Tryz.ntmps28
        go_wp2_with (first
          | (go_at_call 52; refine (cut_any hu s hs _ hF0.tabs).mono ?_; rintro e w1 ⟨v, rfl, hown, hb1⟩; rw [hws] at hown; obtain ⟨g, cp, rfl⟩ := own_shape hown (by simp); have hz1 := (zero_new w).later hb1; have hlt := hz1.lt; obtain ⟨q0, q1, q2, q3, q4, q5, z0, z1, z2, z3, z4, z5⟩ := zeroAt_of hz1; have hg0 : w1.cell? ⟨g, 0, none⟩ = some (.string b) := hown.cellAt 0 (by simp); have hgl : g < w1.heap.size := Lib.lt_of_cell hg0; have hF1 := hF0.call hb1)
          | (go_at_call 54; refine (codeOf_any _ _ (hF1.alloc _).tabs).mono ?_; rintro e w2 ⟨rfl, rfl⟩; rw [← HC.out])
          | (go_at_call 55; refine (parts_any _ _).mono ?_; rintro e w2 ⟨rfl, rfl⟩)
          | go_in)
        rw [HN.out]
        exact bodyPost_ret (v := .tuple #[.agg St.zero.cells, .bool false]) (by simp [results, Tryz.results28, go_sem, hlt, q0, q1, q2, q3, q4, q5, St.cells, St.zero]) rfl
          ⟨rfl, ((((((((below_of hb1).setCell (Nat.le_refl _) _).setCell (Nat.le_refl _) _).setCell (Nat.le_refl _) _).setCell (Nat.le_refl _) _).setCell (Nat.le_refl _) _).setCell (Nat.le_refl _) _).alloc (by simp; omega) _).alloc (by simp; omega) _⟩
      · have hq0 : ((c : Int) == 0) = false := by simp; omega
        have hl2 : ((bs.length : Int) + 1 == 1 + ((partsB c).size : Int)) = false := by
          have h1 := HPS.out
          have h2 : bs.length ≠ (partsL c).length := hbad.resolve_left hc0
          rw [h1]; simp; omega
        clear hbad hc0
        go_enter Tryz.func28, Tryz.ntmps28
        go_wp2_with (first
          | (go_at_call 52; refine (cut_any hu s hs _ hF0.tabs).mono ?_; rintro e w1 ⟨v, rfl, hown, hb1⟩; rw [hws] at hown; obtain ⟨g, cp, rfl⟩ := own_shape hown (by simp); have hz1 := (zero_new w).later hb1; have hlt := hz1.lt; obtain ⟨q0, q1, q2, q3, q4, q5, z0, z1, z2, z3, z4, z5⟩ := zeroAt_of hz1; have hg0 : w1.cell? ⟨g, 0, none⟩ = some (.string b) := hown.cellAt 0 (by simp); have hgl : g < w1.heap.size := Lib.lt_of_cell hg0; have hF1 := hF0.call hb1)
          | (go_at_call 54; refine (codeOf_any _ _ (hF1.alloc _).tabs).mono ?_; rintro e w2 ⟨rfl, rfl⟩; rw [← HC.out])
          | (go_at_call 55; refine (parts_any _ _).mono ?_; rintro e w2 ⟨rfl, rfl⟩)
          | go_in)
        rw [HN.out]
        exact bodyPost_ret (v := .tuple #[.agg St.zero.cells, .bool false]) (by simp [results, Tryz.results28, go_sem, hlt, q0, q1, q2, q3, q4, q5, St.cells, St.zero]) rfl
          ⟨rfl, ((((((((below_of hb1).setCell (Nat.le_refl _) _).setCell (Nat.le_refl _) _).setCell (Nat.le_refl _) _).setCell (Nat.le_refl _) _).setCell (Nat.le_refl _) _).setCell (Nat.le_refl _) _).alloc (by simp; omega) _).alloc (by simp; omega) _⟩
    · have hc0 : ((c : Int) == 0) = false := by simp; omega
      have hl : bs.length = (partsL c).length := by omega
      have hl2 : ((bs.length : Int) + 1 == 1 + ((partsB c).size : Int)) = true := by rw [HPS.out, hl]; simp; omega
      have HL : Hid (bs.length = (partsL c).length) := hl
      have hc1 : 1 ≤ c := by omega
      clear hl hbad
      go_enter Tryz.func28, Tryz.ntmps28
      go_wp2_with (first
        | (go_at_call 52; refine (cut_any hu s hs _ hF0.tabs).mono ?_; rintro e w1 ⟨v, rfl, hown, hb1⟩; rw [hws] at hown; obtain ⟨g, cp, rfl⟩ := own_shape hown (by simp); have hz1 := (zero_new w).later hb1; have hlt := hz1.lt; obtain ⟨q0, q1, q2, q3, q4, q5, z0, z1, z2, z3, z4, z5⟩ := zeroAt_of hz1; have hg0 : w1.cell? ⟨g, 0, none⟩ = some (.string b) := hown.cellAt 0 (by simp); have hgl : g < w1.heap.size := Lib.lt_of_cell hg0; have hF1 := hF0.call hb1)
        | (go_at_call 54; refine (codeOf_any _ _ (hF1.alloc _).tabs).mono ?_; rintro e w2 ⟨rfl, rfl⟩; rw [← HC.out])
        | (go_at_call 55; refine (parts_any _ _).mono ?_; rintro e w2 ⟨rfl, rfl⟩)
        | go_in)
      have HS : Hid (stepOf (b :: bs) = putAll { St.zero with c := (c : Int) } (partsL c) bs) := by
        show stepOf (b :: bs) = _
        rw [stepOf_cons, ← HC.out, if_neg (by have := HL.out; omega)]
      have hroom := hT.room
      have hw1 : w.heap.size ≤ w1.heap.size := by omega
      have hgk : ∀ (k : Nat) (bk : ByteArray), bs[k]? = some bk → w1.cell? ⟨g, k + 1, none⟩ = some (.string bk) := fun k bk hk => by
        have hkl : k < bs.length := (List.getElem?_eq_some_iff.1 hk).1
        rw [hown.cellAt (k + 1) (by simp; omega)]
        simp [hk]
      have hbz : ∀ (k : Nat) (bk : ByteArray), bs[k]? = some bk → bk.size ≤ 100000 := fun k bk hk => by
        have : bk ∈ (fieldsOf s).take 5 := by rw [hws]; exact List.mem_cons_of_mem _ (List.mem_of_getElem? hk)
        exact Nat.le_trans (fields_size s _ _ _ bk (List.mem_of_mem_take this)) hs
      go_loopw [] (fun wr => ∃ (k : Nat) (x : St), k ≤ (partsL c).length ∧ StepIs wr (w1.heap.size + 1) x ∧ putAll x ((partsL c).drop k) (bs.drop k) = putAll { St.zero with c := (c : Int) } (partsL c) bs ∧ wr.heap[w1.heap.size + 2]? = some (.stringIter (partsB c) k)
          ∧ Below (w1.heap.size + 1) (w1.alloc (.cells #[.slice (some ⟨g, 0, none⟩) (bs.length + 1) cp] 64)) wr ∧ Tabs ex wr) (fun wr => (partsL c).length - wr.iterPos (w1.heap.size + 2))
      case atStart =>
        refine ⟨0, { St.zero with c := (c : Int) }, Nat.zero_le _, ?_, rfl, ?_, ?_, ?_⟩
        · have h := World.alloc_heap_new (w1.alloc (.cells #[.slice (some ⟨g, 0, none⟩) (bs.length + 1) cp] 64)) (.cells ({ St.zero with c := (c : Int) } : St).cells 49)
          rw [World.size_alloc] at h
          exact (Below.heap_alloc _ _ _ (by simp)).trans h
        · have h := World.iter_heap ((w1.alloc (.cells #[.slice (some ⟨g, 0, none⟩) (bs.length + 1) cp] 64)).alloc (.cells #[.int .i64 c, .int .i64 0, .int .i64 0, .bool false, .int .i64 0, .int .i64 0] 49)) (partsB c) 0
          simpa using h
        · exact ((Below.refl _ _).alloc (by simp) _).alloc (by simp) _
        · exact (((hF1.alloc _).alloc _).alloc _).tabs
      case round =>
        obtain ⟨k, x, hk, hsx, hput, hit, hbel, hTr⟩ := hrel
        have hbox : wr.cell? ⟨w1.heap.size, 0, none⟩ = some (.slice (some ⟨g, 0, none⟩) (bs.length + 1) cp) := (hbel.cell (p := ⟨w1.heap.size, 0, none⟩) (by simp)).trans (by simp)
        have hzr : StepIs wr w.heap.size St.zero := (hbel.block _ (by omega)).trans ((Below.heap_alloc _ _ _ (by omega)).trans hz1)
        by_cases hp : k < (partsL c).length
        · have hp' : k < (partsB c).size := by rw [HPS.out]; exact hp
          have hasc := parts_ascii c _ (List.getElem_mem hp)
          have hkb : k < bs.length := by rw [HL.out]; exact hp
          obtain ⟨bk, hbk⟩ : ∃ bk, bs[k]? = some bk := ⟨_, List.getElem?_eq_getElem hkb⟩
          obtain ⟨p, hpe⟩ : ∃ p : Nat, p = ((partsL c)[k]'hp).toNat := ⟨_, rfl⟩
          have hpp : p = 100 ∨ p = 115 ∨ p = 111 ∨ p = 102 ∨ p = 116 ∨ p = 99 := by
            rcases hasc with h | h | h | h | h | ⟨h, _⟩
            all_goals rw [h] at hpe
            · exact Or.inl hpe
            · exact Or.inr (Or.inl hpe)
            · exact Or.inr (Or.inr (Or.inl hpe))
            · exact Or.inr (Or.inr (Or.inr (Or.inl hpe)))
            · exact Or.inr (Or.inr (Or.inr (Or.inr (Or.inl hpe))))
            · exact Or.inr (Or.inr (Or.inr (Or.inr (Or.inr hpe))))
          have hpa : ((partsB c)[k]'hp').toNat = p := by rw [partsB_get, hpe]
          have hnx : ∀ ty, (Instr.next (.pointer (some ⟨w1.heap.size + 1 + 1, 0, none⟩)) true ty).run Tryz.prog wr = .ok (.tuple #[.bool true, .int .i64 k, .int .i32 p]) (wr.iterAt (w1.heap.size + 2) (partsB c) (k + 1)) := fun ty => by
            have := Lib.run_next_ascii_at (P := Tryz.prog) wr (w1.heap.size + 2) (partsB c) k ty hit hp' (by rw [hpa]; omega)
            rw [hpa] at this; exact this
          have hd1 : (partsL c).drop k = ((partsL c)[k]'hp) :: (partsL c).drop (k + 1) := List.drop_eq_getElem_cons hp
          have hd2 : bs.drop k = bk :: bs.drop (k + 1) := by
            rw [List.drop_eq_getElem_cons hkb]
            congr 1
            exact Option.some.inj ((List.getElem?_eq_getElem hkb).symm.trans hbk)
          have HP : Hid ((if (x.put p bk).1 then putAll (x.put p bk).2 ((partsL c).drop (k + 1)) (bs.drop (k + 1)) else none) = putAll { St.zero with c := (c : Int) } (partsL c) bs) := by
            rw [hd1, hd2] at hput
            rw [hpe]; exact hput
          have hbk1 := hbz k bk hbk
          have hsI := hsx.iter (pos' := k + 1) hit
          have hbel2 := Lib.below_iterAt hbel (k := w1.heap.size + 2) (by omega) (partsB c) (k + 1)
          have hTi : Tabs ex (wr.iterAt (w1.heap.size + 2) (partsB c) (k + 1)) := hTr.on (Lib.below_iterAt (Below.refl (w1.heap.size + 1) _) (k := w1.heap.size + 2) (by omega) (partsB c) (k + 1)) (by omega)
          have hbox2 : (wr.iterAt (w1.heap.size + 2) (partsB c) (k + 1)).cell? ⟨w1.heap.size, 0, none⟩ = some (.slice (some ⟨g, 0, none⟩) (bs.length + 1) cp) := (hbel2.cell (p := ⟨w1.heap.size, 0, none⟩) (by simp)).trans (by simp)
          have hwd : (wr.iterAt (w1.heap.size + 2) (partsB c) (k + 1)).cell? ⟨g, 1 + k, none⟩ = some (.string bk) := (hbel2.cell (p := ⟨g, 1 + k, none⟩) (by show g < _; omega)).trans ((World.cell?_alloc_past _ _ _ hgl).trans (by rw [Nat.add_comm]; exact hgk k bk hbk))
          have hit2 := Lib.iterAt_heap wr (w1.heap.size + 2) (partsB c) k (k + 1) hit
          have hpos : wr.iterPos (w1.heap.size + 2) = k := by simp only [World.iterPos, hit]
          clear hasc hpe hpa hd1 hd2 hput hp' hgk hbz hbk
          by_cases hok : (x.put p bk).1 = true
          · go_wp2_with (go_at_call 56; refine (put_any he bk hbk1 (by omega) p hpp hsI hTi).mono ?_; rintro e w2 ⟨rfl, hg2, hs2⟩)
            have hlt2 : w1.heap.size + 2 < wr.heap.size := (Array.getElem?_eq_some_iff.1 hit).1
            have hit3 : w2.heap[w1.heap.size + 2]? = some (.stringIter (partsB c) (k + 1)) := (hg2.block _ (by rw [Lib.iterAt_size]; exact hlt2) (fun e => by have := Option.some.inj e; omega)).trans hit2
            have hbel3 : Below (w1.heap.size + 1) (w1.alloc (.cells #[.slice (some ⟨g, 0, none⟩) (bs.length + 1) cp] 64)) w2 := hbel2.trans ⟨hg2.os, hg2.tape, hg2.output, hg2.size, fun j hj => hg2.block j (by rw [Lib.iterAt_size]; omega) (fun e => by have := Option.some.inj e; omega)⟩
            have hT3 := hTi.on_grown hg2 (by omega)
            clear hbox2 hwd hit2 hbel2 hTi hsI hnx hit hbel hTr hg2 hbox
            go_wp2
            go_roundw
            case rel => first | exact ⟨k + 1, (x.put p bk).2, by omega, hs2, by have h := HP.out; rw [if_pos hok] at h; exact h, hit3, hbel3, hT3⟩ | ((repeat apply Exists.intro); exact ⟨⟨k + 1, (x.put p bk).2, by omega, hs2, by have h := HP.out; rw [if_pos hok] at h; exact h, hit3, hbel3, hT3⟩, rfl⟩)
            case measure => simp only [World.iterPos, hit3] at hpos ⊢; omega
          · have hok' : (x.put p bk).1 = false := by simpa using hok
            clear hok
            have HN : Hid (stepV (stepOf (b :: bs)) = .tuple #[.agg St.zero.cells, .bool false]) := by
              have h := HP.out
              rw [if_neg (by simp [hok'])] at h
              show stepV (stepOf (b :: bs)) = _
              rw [HS.out, ← h]; rfl
            go_wp2_with (go_at_call 56; refine (put_any he bk hbk1 (by omega) p hpp hsI hTi).mono ?_; rintro e w2 ⟨rfl, hg2, hs2⟩; have hz2 : StepIs w2 w.heap.size St.zero := (hg2.block _ (by rw [Lib.iterAt_size]; exact hzr.lt) (fun e => by have := Option.some.inj e; omega)).trans (hzr.iter hit); obtain ⟨q0', q1', q2', q3', q4', q5', z0', z1', z2', z3', z4', z5'⟩ := zeroAt_of hz2)
            have hbw : Below w.heap.size w w2 := (below_of hb1).trans ((((Below.refl _ w1).alloc hw1 _).trans (hbel2.mono (by omega))).trans ⟨hg2.os, hg2.tape, hg2.output, hg2.size, fun j hj => hg2.block j (by rw [Lib.iterAt_size]; have := hzr.lt; omega) (fun e => by have := Option.some.inj e; omega)⟩)
            rw [HN.out]
            exact bodyPost_ret (v := .tuple #[.agg St.zero.cells, .bool false]) (by simp [results, Tryz.results28, go_sem, q0', q1', q2', q3', q4', q5', St.cells, St.zero]) rfl
              ⟨rfl, (((((hbw.setCell (Nat.le_refl _) _).setCell (Nat.le_refl _) _).setCell (Nat.le_refl _) _).setCell (Nat.le_refl _) _).setCell (Nat.le_refl _) _).setCell (Nat.le_refl _) _⟩
        · have hkk : k = (partsL c).length := by omega
          have HN : Hid (stepV (stepOf (b :: bs)) = .tuple #[.agg x.cells, .bool true]) := by
            show stepV (stepOf (b :: bs)) = _
            rw [HS.out, ← hput, hkk, List.drop_length]; rfl
          have hnx : ∀ ty, (Instr.next (.pointer (some ⟨w1.heap.size + 1 + 1, 0, none⟩)) true ty).run Tryz.prog wr = .ok (.tuple #[.bool false]) wr := fun ty => Lib.run_next_end_at (P := Tryz.prog) wr (w1.heap.size + 2) (partsB c) _ ty hit (by rw [HPS.out]; exact hp)
          obtain ⟨q0', q1', q2', q3', q4', q5', z0', z1', z2', z3', z4', z5'⟩ := zeroAt_of hzr
          have s0 := hsx.cell 0
          have s1 := hsx.cell 1
          have s2 := hsx.cell 2
          have s3 := hsx.cell 3
          have s4 := hsx.cell 4
          have s5 := hsx.cell 5
          simp only [St.cells] at s0 s1 s2 s3 s4 s5
          have hbw : Below w.heap.size w wr := (below_of hb1).trans (((Below.refl _ w1).alloc hw1 _).trans (hbel.mono (by omega)))
          clear hput hkk hp hgk hbz
          go_wp2
          rw [HN.out]
          exact bodyPost_ret (v := .tuple #[.agg x.cells, .bool true]) (by simp [results, Tryz.results28, go_sem, q0', q1', q2', q3', q4', q5', St.cells]) rfl
            ⟨rfl, (((((hbw.setCell (Nat.le_refl _) _).setCell (Nat.le_refl _) _).setCell (Nat.le_refl _) _).setCell (Nat.le_refl _) _).setCell (Nat.le_refl _) _).setCell (Nat.le_refl _) _⟩
end
end Go.Proofs.YtegeiicginpdbaaGreatDoor
