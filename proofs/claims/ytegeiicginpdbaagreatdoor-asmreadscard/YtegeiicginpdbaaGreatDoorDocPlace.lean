/-
  What the document's placed returns: the register and how far away, if the word is a place; the world below is as it was. Conditions: the tables lie in memory, the library's two errors are errors, the word is short.
-/
import Derived.Test.YtegeiicginpdbaaGreatDoorRefLeaf
import Derived.Test.YtegeiicginpdbaaGreatDoorDocForm
namespace Go.Proofs.YtegeiicginpdbaaGreatDoor
open Go.ChangeShapes Go.WideShapes Go.ChangeAt Go.RowKit
variable {ex : Ext}
theorem pre_any (b : ByteArray) (k : Nat) (v : Bool) (w : World) (h : Lib.hasPrefix b.data.toList (headB k).data.toList = v) :
    Calls Tryz.prog 83 #[.string b, .string ((⟨#[91, 114]⟩ : ByteArray) ++ numB k)] w fun e w' => e = .returned (.bool v) ∧ w' = w := by
  rw [← h]; exact Tryz.strings_HasPrefix b (headB k) w
theorem suf_any (b : ByteArray) (v : Bool) (w : World) (hb : b.size ≤ 100000) (h : Lib.hasSuffix b.data.toList [93] = v) :
    Calls Tryz.prog 84 #[.string b, .string ⟨#[93]⟩] w fun e w' => e = .returned (.bool v) ∧ w' = w := by
  rw [← h]; exact Tryz.strings_HasSuffix b ⟨#[93]⟩ w (by omega)
theorem head_size (k : Nat) : (headB k).size = 2 + (numB k).size := by
  unfold headB
  rw [ByteArray.size_append]
  rfl
theorem cut_run (b : ByteArray) (k : Nat) (c : UInt8) (z : List UInt8) (p3 : (headB k).size + 1 < b.size) (e1 : (b.extract (headB k).size (b.size - 1)).data.toList = c :: z) (w : World) :
    (Instr.slice 9 (.string b) (some (.int .i64 (2 + ((numB k).size : Int)))) (some (.int .i64 ((b.size : Int) - 1))) none).run Tryz.prog w = .ok (.string (mkB (c :: z))) w := by
  have hh := head_size k
  have h := run_slice_string (P := Tryz.prog) w 9 b .i64 .i64 (2 + ((numB k).size : Int)) ((b.size : Int) - 1) Tryz.underlying9 (by omega) (by omega) (by omega)
  rw [h, show (2 + ((numB k).size : Int)).toNat = (headB k).size by omega, show ((b.size : Int) - 1).toNat = b.size - 1 by omega, ← e1, mkB_of]
theorem first_run (c : UInt8) (z : List UInt8) (w : World) : (Instr.index 9 (.string (mkB (c :: z))) (.int .i64 0)).run Tryz.prog w = .ok (.int .u8 (c.toNat : Int)) w := by
  have hz : (mkB (c :: z)).size = z.length + 1 := by rw [len_list, mkB_list]; rfl
  rw [run_index_string (P := Tryz.prog) w 9 _ .i64 0 Tryz.underlying9, dif_pos ⟨by omega, by omega⟩]
  rfl
theorem rest_run (c : UInt8) (z : List UInt8) (w : World) : (Instr.slice 9 (.string (mkB (c :: z))) (some (.int .i64 1)) none none).run Tryz.prog w = .ok (.string (mkB z)) w := by
  have hz : (mkB (c :: z)).size = z.length + 1 := by rw [len_list, mkB_list]; rfl
  rw [run_slice_string_from_if (P := Tryz.prog) w 9 _ .i64 1 Tryz.underlying9, if_pos ⟨by omega, by omega⟩]
  congr 2
  apply bytes_ext
  rw [extract_list, mkB_list, mkB_list, hz]
  simp
theorem docAt_is {b : ByteArray} {k : Nat} {c : UInt8} {z : List UInt8} (p1 : Lib.hasPrefix b.data.toList (headB k).data.toList = true) (p2 : Lib.hasSuffix b.data.toList [93] = true) (p3 : (headB k).size + 1 < b.size) (e1 : (b.extract (headB k).size (b.size - 1)).data.toList = c :: z) :
    docAt b k = signNum (c :: z) := by
  unfold docAt
  rw [if_pos ⟨p1, p2, p3⟩, e1]
theorem other_sign {c : UInt8} {z : List UInt8} (h1 : c ≠ 43) (h2 : c ≠ 45) : signNum (c :: z) = none := by
  unfold signNum
  split
  · rename_i e; exact absurd (List.cons.inj e).1 h1
  · rename_i e; exact absurd (List.cons.inj e).1 h2
  · rfl
theorem not_byte {c d : UInt8} (h : c ≠ d) : ¬ (c.toNat : Int) = (d.toNat : Int) := fun e => h (UInt8.toNat_inj.1 (by omega))
theorem up_none {b : ByteArray} {k : Nat} (h : ∀ j : Nat, j < k → docAt b j = none) (hk : docAt b k = none) : ∀ j : Nat, j < k + 1 → docAt b j = none := fun j hj => by
  rcases Nat.lt_succ_iff_lt_or_eq.1 hj with h' | h'
  · exact h j h'
  · rw [h']; exact hk
set_option maxRecDepth 100000 in
set_option maxHeartbeats 4000000 in
theorem rplaced_any (he : ∀ w, ex.holds w → ErrTabs w) (b : ByteArray) (w : World) (hb : b.size ≤ 100000) (hT : Tabs ex w) :
    Calls Tryz.prog 48 #[.string b] w fun e w' => e = .returned (placeV b) ∧ Below w.heap.size w w' := by
  have hF := Fine.start hT
  go_enter Tryz.func48, Tryz.ntmps48
  go_wp2
  go_loopw [10] (fun i wr => ∃ k : Nat, k ≤ 11 ∧ i = .int .i64 k ∧ Fine ex w wr ∧ ∀ j : Nat, j < k → docAt b j = none) (fun i _ => 11 - (intOf i).toNat)
  case atStart => exact ⟨0, by omega, rfl, hF, fun j hj => absurd hj (Nat.not_lt_zero _)⟩
  case round =>
    obtain ⟨k, hk, rfl, hFr, hno⟩ := hrel
    by_cases hlt : k < 11
    · have hf := fits_small hlt
      have hz := numB_size k hf.1 hf.2
      by_cases p1 : Lib.hasPrefix b.data.toList (headB k).data.toList = true
      · have P1 : Hid (Lib.hasPrefix b.data.toList (headB k).data.toList = true) := p1
        clear p1
        by_cases p2 : Lib.hasSuffix b.data.toList [93] = true
        · have P2 : Hid (Lib.hasSuffix b.data.toList [93] = true) := p2
          clear p2
          by_cases p3 : (headB k).size + 1 < b.size
          · obtain ⟨c, z, e1, e2⟩ := doc_shape P1.out P2.out p3
            have hh : (headB k).size = 2 + (numB k).size := head_size k
            have x3 : decide (2 + ((numB k).size : Int) + 1 < (b.size : Int)) = true := by simp; omega
            have hcut := cut_run b k c z p3 e1
            have hfst := first_run c z
            have hrst := rest_run c z
            have hlen : z.length + 1 ≤ b.size := by
              have := congrArg List.length e1
              rw [← len_list, ByteArray.size_extract, List.length_cons] at this
              omega
            have hA := docAt_is P1.out P2.out p3 e1
            clear p3 hh e1 e2
            by_cases hc : c = 43
            · subst hc
              have HA : Hid (docAt b k = numOf (mkB z)) := hA
              have hzb : (mkB z).size ≤ 100000 := by rw [len_list, mkB_list]; omega
              clear hA hlen
              cases hn : numOf (mkB z) with
              | some n =>
                have HN : Hid (numOf (mkB z) = some n) := hn
                have HD : Hid (placeV b = .tuple #[.int .i64 (k : Int), .int .i64 n, .bool true]) := placeV_some (docAt_some hlt (HA.out.trans hn))
                clear hn
                go_wp2_with (first
              | (go_at_call 81; refine (num_any _ _ hf.1 hf.2 hFr.tabs).mono ?_; rintro e w1 ⟨rfl, hb1⟩)
              | (go_at_call 83; refine (pre_any b k _ _ P1.out).mono ?_; rintro e w' ⟨rfl, rfl⟩)
              | (go_at_call 84; refine (suf_any b _ _ hb P2.out).mono ?_; rintro e w' ⟨rfl, rfl⟩)
              | (go_at_call 47; refine (rnumber_some HN.out _ hzb (hFr.call hb1).tabs).mono ?_; rintro e w2 ⟨rfl, hb2⟩))
                go_ret3
                exact ⟨by rw [HD.out]; rfl, ((hFr.call hb1).call hb2).bel⟩
              | none =>
                have HN : Hid (numOf (mkB z) = none) := hn
                have P3 : Hid (docAt b k = none) := HA.out.trans hn
                clear hn
                go_wp2_with (first
              | (go_at_call 81; refine (num_any _ _ hf.1 hf.2 hFr.tabs).mono ?_; rintro e w1 ⟨rfl, hb1⟩)
              | (go_at_call 83; refine (pre_any b k _ _ P1.out).mono ?_; rintro e w' ⟨rfl, rfl⟩)
              | (go_at_call 84; refine (suf_any b _ _ hb P2.out).mono ?_; rintro e w' ⟨rfl, rfl⟩)
              | (go_at_call 47; refine (rnumber_none he HN.out _ hzb (hFr.call hb1).tabs).mono ?_; rintro e w2 ⟨⟨v, rfl⟩, hb2⟩))
                go_roundw
                case rel => exact ⟨k + 1, by omega, by go_num, (hFr.call hb1).call hb2, up_none hno P3.out⟩
                case measure => simp [intOf]; omega
            · by_cases hc2 : c = 45
              · subst hc2
                have HA : Hid (docAt b k = numOf (mkB (45 :: z))) := hA
                have hzb : (mkB (45 :: z)).size ≤ 100000 := by rw [len_list, mkB_list, List.length_cons]; omega
                clear hA hlen hc
                cases hn : numOf (mkB (45 :: z)) with
                | some n =>
                  have HN : Hid (numOf (mkB (45 :: z)) = some n) := hn
                  have HD : Hid (placeV b = .tuple #[.int .i64 (k : Int), .int .i64 n, .bool true]) := placeV_some (docAt_some hlt (HA.out.trans hn))
                  clear hn
                  go_wp2_with (first
                | (go_at_call 81; refine (num_any _ _ hf.1 hf.2 hFr.tabs).mono ?_; rintro e w1 ⟨rfl, hb1⟩)
                | (go_at_call 83; refine (pre_any b k _ _ P1.out).mono ?_; rintro e w' ⟨rfl, rfl⟩)
                | (go_at_call 84; refine (suf_any b _ _ hb P2.out).mono ?_; rintro e w' ⟨rfl, rfl⟩)
                | (go_at_call 47; refine (rnumber_some HN.out _ hzb (hFr.call hb1).tabs).mono ?_; rintro e w2 ⟨rfl, hb2⟩))
                  go_ret3
                  exact ⟨by rw [HD.out]; rfl, ((hFr.call hb1).call hb2).bel⟩
                | none =>
                  have HN : Hid (numOf (mkB (45 :: z)) = none) := hn
                  have P3 : Hid (docAt b k = none) := HA.out.trans hn
                  clear hn
                  go_wp2_with (first
                | (go_at_call 81; refine (num_any _ _ hf.1 hf.2 hFr.tabs).mono ?_; rintro e w1 ⟨rfl, hb1⟩)
                | (go_at_call 83; refine (pre_any b k _ _ P1.out).mono ?_; rintro e w' ⟨rfl, rfl⟩)
                | (go_at_call 84; refine (suf_any b _ _ hb P2.out).mono ?_; rintro e w' ⟨rfl, rfl⟩)
                | (go_at_call 47; refine (rnumber_none he HN.out _ hzb (hFr.call hb1).tabs).mono ?_; rintro e w2 ⟨⟨v, rfl⟩, hb2⟩))
                  go_roundw
                  case rel => exact ⟨k + 1, by omega, by go_num, (hFr.call hb1).call hb2, up_none hno P3.out⟩
                  case measure => simp [intOf]; omega
              · have x4 : ((c.toNat : Int) == 43) = false := by
                  have := not_byte hc
                  simp; exact this
                have x5 : ((c.toNat : Int) != 45) = true := by
                  have := not_byte hc2
                  simp; exact this
                have P3 : Hid (docAt b k = none) := hA.trans (other_sign hc hc2)
                clear hA hlen hc hc2
                go_wp2_with (first
              | (go_at_call 81; refine (num_any _ _ hf.1 hf.2 hFr.tabs).mono ?_; rintro e w1 ⟨rfl, hb1⟩)
              | (go_at_call 83; refine (pre_any b k _ _ P1.out).mono ?_; rintro e w' ⟨rfl, rfl⟩)
              | (go_at_call 84; refine (suf_any b _ _ hb P2.out).mono ?_; rintro e w' ⟨rfl, rfl⟩))
                go_roundw
                case rel => exact ⟨k + 1, by omega, by go_num, hFr.call hb1, up_none hno P3.out⟩
                case measure => simp [intOf]; omega
          · have P3 : Hid (docAt b k = none) := by
              show docAt b k = none
              unfold docAt; rw [if_neg (fun h => p3 h.2.2)]
            have hh : (headB k).size = 2 + (numB k).size := head_size k
            have x3 : decide (2 + ((numB k).size : Int) + 1 < (b.size : Int)) = false := by simp; omega
            clear p3 hh
            go_wp2_with (first
              | (go_at_call 81; refine (num_any _ _ hf.1 hf.2 hFr.tabs).mono ?_; rintro e w1 ⟨rfl, hb1⟩)
              | (go_at_call 83; refine (pre_any b k _ _ P1.out).mono ?_; rintro e w' ⟨rfl, rfl⟩)
              | (go_at_call 84; refine (suf_any b _ _ hb P2.out).mono ?_; rintro e w' ⟨rfl, rfl⟩))
            go_roundw
            case rel => exact ⟨k + 1, by omega, by go_num, hFr.call hb1, up_none hno P3.out⟩
            case measure => simp [intOf]; omega
        · have P2 : Hid (Lib.hasSuffix b.data.toList [93] = false) := Bool.eq_false_iff.2 p2
          have P3 : Hid (docAt b k = none) := by
            show docAt b k = none
            unfold docAt; rw [if_neg (fun h => p2 h.2.1)]
          clear p2
          go_wp2_with (first
            | (go_at_call 81; refine (num_any _ _ hf.1 hf.2 hFr.tabs).mono ?_; rintro e w1 ⟨rfl, hb1⟩)
            | (go_at_call 83; refine (pre_any b k _ _ P1.out).mono ?_; rintro e w' ⟨rfl, rfl⟩)
            | (go_at_call 84; refine (suf_any b _ _ hb P2.out).mono ?_; rintro e w' ⟨rfl, rfl⟩))
          go_roundw
          case rel => exact ⟨k + 1, by omega, by go_num, hFr.call hb1, up_none hno P3.out⟩
          case measure => simp [intOf]; omega
      · have P1 : Hid (Lib.hasPrefix b.data.toList (headB k).data.toList = false) := Bool.eq_false_iff.2 p1
        have P3 : Hid (docAt b k = none) := by
          show docAt b k = none
          unfold docAt; rw [if_neg (fun h => p1 h.1)]
        clear p1
        go_wp2_with (first
            | (go_at_call 81; refine (num_any _ _ hf.1 hf.2 hFr.tabs).mono ?_; rintro e w1 ⟨rfl, hb1⟩)
            | (go_at_call 83; refine (pre_any b k _ _ P1.out).mono ?_; rintro e w' ⟨rfl, rfl⟩))
        go_roundw
        case rel => exact ⟨k + 1, by omega, by go_num, hFr.call hb1, up_none hno P3.out⟩
        case measure => simp [intOf]; omega
    · have hkk : k = 11 := by omega
      subst hkk
      have HR : Hid (placeV b = .tuple #[.int .i64 0, .int .i64 0, .bool false]) := placeV_none (docAt_none hno)
      go_wp2
      go_ret3
      exact ⟨by rw [HR.out]; rfl, hFr.bel⟩
end Go.Proofs.YtegeiicginpdbaaGreatDoor
