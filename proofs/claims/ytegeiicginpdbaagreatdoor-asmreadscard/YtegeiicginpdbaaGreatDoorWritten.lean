/-
  A step as text: what asm.written returns is the name of the step's code and the words behind it, with a blank between; the world below is as it was. Conditions: the tables lie in memory, the code is one of the 28, numbers are of 64 bits, a call calls one of the three.
-/
import Derived.Test.YtegeiicginpdbaaGreatDoorWords
import Derived.Lib.OthersKept
namespace Go.Proofs.YtegeiicginpdbaaGreatDoor
open Go.ChangeShapes Go.WideShapes Go.ChangeAt Go.RowKit
variable {ex : Ext}

/-! ### Joined words -/
def joinB (xs : List ByteArray) (sep : ByteArray) : ByteArray := ⟨(Lib.join (xs.map (·.data.toList)) sep.data.toList).toArray⟩
theorem tail_length (sep : List UInt8) (m : Nat) (hs : sep.length ≤ 2) : ∀ (r : List ByteArray), (∀ x ∈ r, x.size ≤ m) → (Lib.joinTail sep (r.map (·.data.toList))).length ≤ r.length * (m + 2)
  | [], _ => by simp [Lib.joinTail]
  | x :: r, h => by
    have ih := tail_length sep m hs r fun y hy => h y (List.mem_cons_of_mem _ hy)
    have hx : x.data.toList.length ≤ m := by simpa using h x List.mem_cons_self
    have e : Lib.joinTail sep ((x :: r).map (·.data.toList)) = (sep ++ x.data.toList) ++ Lib.joinTail sep (r.map (·.data.toList)) := by simp [Lib.joinTail]
    rw [e, List.length_append, List.length_append, List.length_cons, Nat.add_mul, Nat.one_mul]
    omega
theorem join_length_le (xs : List ByteArray) (sep : ByteArray) (m : Nat) (hs : sep.data.toList.length ≤ 2) (h : ∀ x ∈ xs, x.size ≤ m) : (Lib.join (xs.map (·.data.toList)) sep.data.toList).length ≤ xs.length * (m + 2) := by
  cases xs with
  | nil => simp [Lib.join_nil]
  | cons x r =>
    have ih := tail_length sep.data.toList m hs r fun y hy => h y (List.mem_cons_of_mem _ hy)
    have hx : x.data.toList.length ≤ m := by simpa using h x List.mem_cons_self
    rw [List.map_cons, Lib.join_cons, List.length_append, List.length_cons, Nat.add_mul, Nat.one_mul]
    omega
theorem joinB_size (xs : List ByteArray) (sep : ByteArray) (m : Nat) (hs : sep.data.toList.length ≤ 2) (h : ∀ x ∈ xs, x.size ≤ m) : (joinB xs sep).size ≤ xs.length * (m + 2) := by
  show (Lib.join _ _).toArray.size ≤ _
  rw [List.size_toArray]; exact join_length_le xs sep m hs h
/-- strings.Join at a row that the call itself has made. -/
theorem join_any (bk n cap base : Nat) (xs : List ByteArray) (sep : ByteArray) (w : World) (hown : w.ownsRow base 9 1 (.slice (some ⟨bk, 0, none⟩) n cap) n (xs.map Value.string))
    (hl : xs.length * 50000 ≤ 100000000) (hs : sep.data.toList.length ≤ 2) (hx : ∀ x ∈ xs, x.size ≤ 49998) :
    Calls Tryz.prog 31 #[.slice (some ⟨bk, 0, none⟩) n cap, .string sep] w fun e w' => e = .returned (.string (joinB xs sep)) ∧ Below w.heap.size w w' := by
  have hn : xs.length = n := by have := hown.1; simpa using this
  subst hn
  have hc : ∀ (j : Nat) x, xs[j]? = some x → w.cell? ⟨bk, 0 + j, none⟩ = some (.string x) := by
    intro j x hj
    have hlt : j < xs.length := (List.getElem?_eq_some_iff.1 hj).1
    rw [Nat.zero_add, hown.cellAt j (by omega), List.getElem?_map, hj]; rfl
  have hb : bk < w.heap.size ∧ xs.length ≤ cap := by
    rcases hown.2 with ⟨h, _⟩ | ⟨g, cap', cur, h, _, hg, hcap, _⟩
    · cases h
    · simp only [Value.slice.injEq, Option.some.injEq, Addr.mk.injEq, and_true, true_and] at h
      obtain ⟨rfl, rfl⟩ := h
      exact ⟨(Array.getElem?_eq_some_iff.1 hg).1, hcap⟩
  have hj := join_length_le xs sep 49998 hs hx
  exact Tryz.strings_Join bk 0 cap xs sep w hc hb.1 (by omega) hb.2 (by omega)

/-! ### What is kept -/
theorem own_later {w w1 : World} {base n : Nat} {e : TypeId} {v : Value} {xs : List Value} (h : w.ownsRow base e 1 v n xs) (hb : Below w.heap.size w w1) : w1.ownsRow base e 1 v n xs :=
  h.kept (row := none) ⟨hb.os, hb.tape, hb.output, hb.size, fun k hk _ => hb.block k hk⟩ (by cases v.ownBlock <;> simp)
theorem own_iter {w : World} {base n k pos pos' : Nat} {s : ByteArray} {e : TypeId} {v : Value} {xs : List Value} (h : w.ownsRow base e 1 v n xs) (hit : w.heap[k]? = some (.stringIter s pos)) : (w.iterAt k s pos').ownsRow base e 1 v n xs := by
  refine ⟨h.1, ?_⟩
  rcases h.2 with hn | ⟨g, cap, cur, rfl, hb, hg, rest⟩
  · exact .inl hn
  · refine .inr ⟨g, cap, cur, rfl, hb, ?_, rest⟩
    rw [Lib.iterAt_other w k g s pos' (fun e => by rw [e, hit] at hg; cases hg)]; exact hg
theorem iter_kept {w w1 : World} {base n k pos : Nat} {s : ByteArray} {e : TypeId} {v : Value} {xs : List Value} (h : w.ownsRow base e 1 v n xs) (hg : w.grownBy w1 v.ownBlock) (hit : w.heap[k]? = some (.stringIter s pos)) : w1.heap[k]? = some (.stringIter s pos) := by
  have hk : k < w.heap.size := (Array.getElem?_eq_some_iff.1 hit).1
  rw [hg.block k hk ?_]; exact hit
  intro hb
  rcases h.2 with ⟨rfl, _⟩ | ⟨g, cap, cur, rfl, _, hgg, _⟩
  · simp [Value.ownBlock] at hb
  · simp [Value.ownBlock] at hb
    subst hb; rw [hit] at hgg; cases hgg
theorem own_from {w : World} {base n : Nat} {e : TypeId} {v : Value} {xs : List Value} (h : w.ownsRow base e 1 v n xs) : ∀ k, v.ownBlock = some k → base ≤ k := by
  intro k hk
  rcases h.2 with ⟨rfl, _⟩ | ⟨g, cap, cur, rfl, hb, _⟩
  · simp [Value.ownBlock] at hk
  · simp [Value.ownBlock] at hk; omega
theorem Fine.grown {a w w' : World} {row : Option Nat} (h : Fine ex a w) (hg : w.grownBy w' row) (hr : ∀ k, row = some k → a.heap.size ≤ k) (ha : 14 ≤ a.heap.size) : Fine ex a w' :=
  ⟨h.bel.grown hg h.bel.size hr, h.tabs.on ((Below.refl a.heap.size w).grown hg h.bel.size hr) ha⟩
theorem own_start (w : World) (e : TypeId) (x : Value) : (w.alloc (.cells #[x] e)).ownsRow w.heap.size e 1 (.slice (some ⟨w.heap.size, 0, none⟩) 1 1) 1 [x] :=
  ⟨rfl, .inr ⟨w.heap.size, 1, #[x], rfl, Nat.le_refl _, by show (w.heap.push _)[w.heap.size]? = _; simp, Nat.le_refl _, by decide, rfl, rfl⟩⟩
theorem own_shape {w : World} {base n : Nat} {e : TypeId} {v : Value} {xs : List Value} (h : w.ownsRow base e 1 v n xs) (hn : 0 < n) : ∃ g cap, v = .slice (some ⟨g, 0, none⟩) n cap := by
  rcases h.2 with ⟨_, rfl⟩ | ⟨g, cap, _, rfl, _⟩
  · omega
  · exact ⟨g, cap, rfl⟩
/-- A round: the iterator goes on, a call that leaves old memory alone, a word is laid and appended. -/
theorem rel_next {B k n : Nat} {e : TypeId} {w0 wr w1 w2 : World} {p : ByteArray} {u : Value} {xs : List Value} {o : Obj} (hown : wr.ownsRow (B + 1) e 1 u n xs) (hit : wr.heap[B + 2]? = some (.stringIter p k)) (hbel : Below (B + 1) w0 wr) (hT : Tabs ex wr) (hB : 14 ≤ B)
    (hb1 : Below (wr.iterAt (B + 2) p (k + 1)).heap.size (wr.iterAt (B + 2) p (k + 1)) w1) (hgrow : (w1.alloc o).grownBy w2 u.ownBlock) :
    w2.heap[B + 2]? = some (.stringIter p (k + 1)) ∧ Below (B + 1) w0 w2 ∧ Tabs ex w2 := by
  have hlt : B + 2 < wr.heap.size := (Array.getElem?_eq_some_iff.1 hit).1
  have hs := hb1.size
  rw [Lib.iterAt_size] at hs
  have o1 := (own_later (own_iter (pos' := k + 1) hown hit) hb1).alloc o
  have i1 : (w1.alloc o).heap[B + 2]? = some (.stringIter p (k + 1)) := (Below.heap_alloc _ _ _ (by omega)).trans ((hb1.block _ (by rw [Lib.iterAt_size]; exact hlt)).trans (Lib.iterAt_heap wr (B + 2) p k (k + 1) hit))
  have hx : Below (B + 1) wr w2 := (((Lib.below_iterAt (Below.refl _ _) (k := B + 2) (by omega) p (k + 1)).trans (hb1.mono (by rw [Lib.iterAt_size]; omega))).alloc (by omega) o).grown hgrow (by simp; omega) (own_from o1)
  exact ⟨iter_kept o1 hgrow i1, hbel.trans hx, hT.on hx (by omega)⟩
theorem Tryz.infoS : (Tryz.prog.info? 9).map (fun i => (i.zero, i.size, i.bytes)) = some (some (.string ⟨#[]⟩), 1, 16) := by kernel_rfl

/-! ### A step as text -/
def wordsOf (c : Int) (d s : Int) (r : Bool) (o n : Int) (k : Nat) : List ByteArray := nameB c.toNat :: ((partsL c).take k).map fun p => tellB d s r o n p.toNat
def stepB (c d s : Int) (r : Bool) (o n : Int) : ByteArray := joinB (wordsOf c d s r o n (partsL c).length) ⟨#[32]⟩
theorem parts_few (c : Int) : (partsL c).length ≤ 3 := by
  unfold partsL; repeat' split
  all_goals decide
theorem parts_ascii (c : Int) : ∀ x ∈ partsL c, x = 100 ∨ x = 115 ∨ x = 111 ∨ x = 102 ∨ x = 116 ∨ (x = 99 ∧ c = 27) := by
  unfold partsL
  repeat' split
  all_goals simp_all
theorem tellB_size (d s o n : Int) (r : Bool) (p : Nat) (hd : Fits d) (hs : Fits s) (ho : Fits o) (hn : Fits n) : (tellB d s r o n p).size ≤ 44 := by
  have h1 := regB_size d hd.1 hd.2
  have h2 := secondB_size s n r hs.1 hs.2 hn.1 hn.2
  have h3 := numB_size o ho.1 ho.2
  have h4 := placeB_size s o hs.1 hs.2 ho.1 ho.2
  have h5 := placeB_size d o hd.1 hd.2 ho.1 ho.2
  have h6 := callB_size n.toNat
  unfold tellB
  repeat' split
  all_goals omega
theorem wordsOf_size (c d s o n : Int) (r : Bool) (k : Nat) (hd : Fits d) (hs : Fits s) (ho : Fits o) (hn : Fits n) : ∀ x ∈ wordsOf c d s r o n k, x.size ≤ 44 := by
  intro x hx
  rcases List.mem_cons.1 hx with rfl | hx
  · have := nameB_size c.toNat; omega
  · obtain ⟨p, _, rfl⟩ := List.mem_map.1 hx
    exact tellB_size d s o n r _ hd hs ho hn
theorem wordsOf_length (c d s o n : Int) (r : Bool) (k : Nat) (hk : k ≤ (partsL c).length) : (wordsOf c d s r o n k).length = k + 1 := by
  simp [wordsOf, Nat.min_eq_left hk]
theorem stepB_size (c d s o n : Int) (r : Bool) (hd : Fits d) (hs : Fits s) (ho : Fits o) (hn : Fits n) : (stepB c d s r o n).size ≤ 184 := by
  have h := joinB_size (wordsOf c d s r o n (partsL c).length) ⟨#[32]⟩ 44 (by decide) (wordsOf_size c d s o n r _ hd hs ho hn)
  rw [wordsOf_length c d s o n r _ (Nat.le_refl _)] at h
  have := parts_few c
  unfold stepB
  omega
theorem wordsOf_succ (c d s o n : Int) (r : Bool) (k : Nat) (hk : k < (partsL c).length) : wordsOf c d s r o n (k + 1) = wordsOf c d s r o n k ++ [tellB d s r o n ((partsL c)[k]'hk).toNat] := by
  unfold wordsOf
  rw [List.take_succ_eq_append_getElem hk, List.map_append]; rfl
theorem partsB_get (c : Int) (k : Nat) (hk : k < (partsB c).size) : (partsB c)[k]'hk = (partsL c)[k]'(by simpa [partsB, ByteArray.size] using hk) := rfl
theorem partsB_size (c : Int) : (partsB c).size = (partsL c).length := by
  show (partsL c).toArray.size = _
  rw [List.size_toArray]
set_option maxHeartbeats 2000000 in
theorem written_any (c d s o n : Int) (r : Bool) (w : World) (h1 : 1 ≤ c) (h2 : c ≤ 28) (hd : Fits d) (hs : Fits s) (ho : Fits o) (hn : Fits n) (h3 : c = 27 → n = 1 ∨ n = 2 ∨ n = 3) (hT : Tabs ex w) :
    Calls Tryz.prog 30 #[.agg #[.int .i64 c, .int .i64 d, .int .i64 s, .bool r, .int .i64 o, .int .i64 n]] w fun e w' => e = .returned (.string (stepB c d s r o n)) ∧ Below w.heap.size w w' := by
  obtain ⟨c, rfl⟩ := Int.eq_ofNat_of_zero_le (by omega : 0 ≤ c)
  have hF := Fine.start hT
  have hroom := hT.room
  have hg2 : 2 < w.heap.size := by omega
  have hcell := hT.names c (by omega)
  have hpn := parts_few c
  have hps := partsB_size c
  go_enter Tryz.func30, Tryz.ntmps30
  go_wp2_with (go_at_call 55; refine (parts_any _ _).mono ?_; rintro e w1 ⟨rfl, rfl⟩)
  obtain ⟨i0, hi, hz0, hz1, hz2⟩ := info_parts Tryz.infoS
  go_loopw [3] (fun v wr => ∃ k : Nat, k ≤ (partsL c).length ∧ wr.ownsRow (w.heap.size + 1) 9 1 v (k + 1) ((wordsOf c d s r o n k).map Value.string) ∧ wr.heap[w.heap.size + 2]? = some (.stringIter (partsB c) k)
      ∧ Below (w.heap.size + 1) (w.alloc (.cells #[.int .i64 c, .int .i64 d, .int .i64 s, .bool r, .int .i64 o, .int .i64 n] 49)) wr ∧ Tabs ex wr) (fun _ wr => (partsL c).length - wr.iterPos (w.heap.size + 2))
  case atStart =>
    refine ⟨0, Nat.zero_le _, ?_, ?_, ?_, ?_⟩
    · have this : (((w.alloc (.cells #[.int .i64 c, .int .i64 d, .int .i64 s, .bool r, .int .i64 o, .int .i64 n] 49)).alloc (.cells #[.string (nameB c)] 9)).iter (partsB c) 0).ownsRow (w.alloc (.cells #[.int .i64 c, .int .i64 d, .int .i64 s, .bool r, .int .i64 o, .int .i64 n] 49)).heap.size 9 1 (.slice (some ⟨(w.alloc (.cells #[.int .i64 c, .int .i64 d, .int .i64 s, .bool r, .int .i64 o, .int .i64 n] 49)).heap.size, 0, none⟩) 1 1) 1 [.string (nameB c)] := (own_start (w.alloc (.cells #[.int .i64 c, .int .i64 d, .int .i64 s, .bool r, .int .i64 o, .int .i64 n] 49)) 9 (.string (nameB c))).alloc _
      simpa [wordsOf] using this
    · have := World.iter_heap ((w.alloc (.cells #[.int .i64 c, .int .i64 d, .int .i64 s, .bool r, .int .i64 o, .int .i64 n] 49)).alloc (.cells #[.string (nameB c)] 9)) (partsB c) 0
      simpa using this
    · exact ((Below.refl _ _).alloc (by simp) _).alloc (by simp) _
    · exact (((hF.alloc _).alloc _).alloc _).tabs
  case round =>
    obtain ⟨k, hk, hown, hit, hbel, hTr⟩ := hrel
    by_cases hp : k < (partsL c).length
    · have hp' : k < (partsB c).size := by omega
      have hasc := parts_ascii c _ (List.getElem_mem hp)
      obtain ⟨p, hpe⟩ : ∃ p : Nat, p = ((partsL c)[k]'hp).toNat := ⟨_, rfl⟩
      have hpp : p = 100 ∨ p = 115 ∨ p = 111 ∨ p = 102 ∨ p = 116 ∨ (p = 99 ∧ (n = 1 ∨ n = 2 ∨ n = 3)) := by
        rcases hasc with h | h | h | h | h | ⟨h, hc⟩
        all_goals rw [h] at hpe
        · exact Or.inl hpe
        · exact Or.inr (Or.inl hpe)
        · exact Or.inr (Or.inr (Or.inl hpe))
        · exact Or.inr (Or.inr (Or.inr (Or.inl hpe)))
        · exact Or.inr (Or.inr (Or.inr (Or.inr (Or.inl hpe))))
        · exact Or.inr (Or.inr (Or.inr (Or.inr (Or.inr ⟨hpe, h3 hc⟩))))
      have hpa : ((partsB c)[k]'hp').toNat = p := by rw [partsB_get, hpe]
      have hnx : ∀ ty, (Instr.next (.pointer (some ⟨w.heap.size + 1 + 1, 0, none⟩)) true ty).run Tryz.prog wr = .ok (.tuple #[.bool true, .int .i64 k, .int .i32 p]) (wr.iterAt (w.heap.size + 2) (partsB c) (k + 1)) := fun ty => by
        have := Lib.run_next_ascii_at (P := Tryz.prog) wr (w.heap.size + 2) (partsB c) k ty hit hp' (by rw [hpa]; omega)
        rw [hpa] at this; exact this
      have HP : Hid (wordsOf c d s r o n (k + 1) = wordsOf c d s r o n k ++ [tellB d s r o n p]) := by
        rw [hpe]; exact wordsOf_succ c d s o n r k hp
      have hbel2 := Lib.below_iterAt hbel (k := w.heap.size + 2) (by omega) (partsB c) (k + 1)
      have g0 : (wr.iterAt (w.heap.size + 2) (partsB c) (k + 1)).cell? ⟨w.heap.size, 0, none⟩ = some (.int .i64 c) := (hbel2.cell (p := ⟨w.heap.size, 0, none⟩) (by simp)).trans (by simp)
      have g1 : (wr.iterAt (w.heap.size + 2) (partsB c) (k + 1)).cell? ⟨w.heap.size, 1, none⟩ = some (.int .i64 d) := (hbel2.cell (p := ⟨w.heap.size, 1, none⟩) (by simp)).trans (by simp)
      have g2 : (wr.iterAt (w.heap.size + 2) (partsB c) (k + 1)).cell? ⟨w.heap.size, 2, none⟩ = some (.int .i64 s) := (hbel2.cell (p := ⟨w.heap.size, 2, none⟩) (by simp)).trans (by simp)
      have g3 : (wr.iterAt (w.heap.size + 2) (partsB c) (k + 1)).cell? ⟨w.heap.size, 3, none⟩ = some (.bool r) := (hbel2.cell (p := ⟨w.heap.size, 3, none⟩) (by simp)).trans (by simp)
      have g4 : (wr.iterAt (w.heap.size + 2) (partsB c) (k + 1)).cell? ⟨w.heap.size, 4, none⟩ = some (.int .i64 o) := (hbel2.cell (p := ⟨w.heap.size, 4, none⟩) (by simp)).trans (by simp)
      have g5 : (wr.iterAt (w.heap.size + 2) (partsB c) (k + 1)).cell? ⟨w.heap.size, 5, none⟩ = some (.int .i64 n) := (hbel2.cell (p := ⟨w.heap.size, 5, none⟩) (by simp)).trans (by simp)
      have hTi : Tabs ex (wr.iterAt (w.heap.size + 2) (partsB c) (k + 1)) := hTr.on (Lib.below_iterAt (Below.refl (w.heap.size + 1) _) (k := w.heap.size + 2) (by omega) (partsB c) (k + 1)) (by omega)
      clear hpe hpa hasc hcell hbel2
      go_wp2_with (first
        | (go_at_call 57; refine (tell_any _ _ _ _ _ _ p _ hd hs ho hn hTi hpp).mono ?_; rintro e w1 ⟨rfl, hb1⟩)
        | (at_builtin; refine wpList_append_own _ rfl (.tmp 18) (.tmp 22) 64 rfl (w.heap.size + 1) 9 i0 (.string ⟨#[]⟩) 1 16 Tryz.underlying64 hi hz0 hz1 hz2 rfl (by decide) _ _ _ rfl ((own_later (own_iter hown hit) hb1).alloc _) ⟨w1.heap.size, 0, none⟩ 1 1 [.string (tellB d s r o n p)] rfl rfl ?c1 ?c2 ?c3 ?c4 ?c5 ?_)
        | go_in)
      case c1 =>
        intro j u hj
        match j, hj with
        | 0, hj => simp at hj; subst hj; simp [Addr.add]
      case c2 => intro u hu; simp at hu; subst hu; rfl
      case c3 => unfold maxLen; omega
      case c4 => omega
      case c5 =>
        have h5 := hb1.size
        rw [Lib.iterAt_size] at h5
        have h6 := (Array.getElem?_eq_some_iff.1 hit).1
        simp; omega
      · intro v' w2 hown' hgrow _
        have R := rel_next hown hit hbel hTr hroom hb1 hgrow
        have hown2 : w2.ownsRow (w.heap.size + 1) 9 1 v' (k + 1 + 1) ((wordsOf c d s r o n (k + 1)).map Value.string) := by rw [HP.out, List.map_append]; exact hown'
        have hpos : wr.iterPos (w.heap.size + 2) = k := by simp only [World.iterPos, hit]
        clear hown' hgrow hown hit hbel hTr hb1 g0 g1 g2 g3 g4 g5 hnx hTi
        go_wp2
        go_roundw
        case rel => exact ⟨k + 1, by omega, hown2, R.1, R.2.1, R.2.2⟩
        case measure => simp only [World.iterPos, R.1] at hpos ⊢; omega
    · have hkk : k = (partsL c).length := by omega
      subst hkk
      have hnx : ∀ ty, (Instr.next (.pointer (some ⟨w.heap.size + 1 + 1, 0, none⟩)) true ty).run Tryz.prog wr = .ok (.tuple #[.bool false]) wr := fun ty => Lib.run_next_end_at (P := Tryz.prog) wr (w.heap.size + 2) (partsB c) _ ty hit (by omega)
      obtain ⟨g, cap, hv⟩ := own_shape hown (by omega)
      subst hv
      have hwl := wordsOf_length c d s o n r _ (Nat.le_refl (partsL c).length)
      have hwz : ∀ x ∈ wordsOf c d s r o n (partsL c).length, x.size ≤ 49998 := fun x hx => Nat.le_trans (wordsOf_size c d s o n r _ hd hs ho hn x hx) (by decide)
      go_wp2_with (go_at_call 31; refine (join_any g _ cap _ _ _ _ hown (by omega) (by decide) hwz).mono ?_; rintro e w1 ⟨rfl, hb1⟩)
      go_ret
      have hsz := hbel.size
      exact ⟨rfl, (((Below.refl _ _).alloc (Nat.le_refl _) _).trans (hbel.mono (by omega))).trans (hb1.mono (by simp at hsz; omega))⟩
end Go.Proofs.YtegeiicginpdbaaGreatDoor
