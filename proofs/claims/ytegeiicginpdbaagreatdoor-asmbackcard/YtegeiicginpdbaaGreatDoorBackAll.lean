/-
  gatehousekeep.AsmBack: true at whatever list and text; the world below is as it was. Conditions: the tables lie in memory, the library's two errors are errors.
-/
import Derived.Test.YtegeiicginpdbaaGreatDoorBackLaw2
import Derived.Test.YtegeiicginpdbaaGreatDoorOpen
namespace Go.Proofs.YtegeiicginpdbaaGreatDoor
open Go.ChangeShapes Go.WideShapes Go.ChangeAt Go.RowKit
set_option linter.unusedVariables false
variable {ex : Ext}
theorem back_long (a : Option Addr) (len cap : Nat) (h : 300 < len) (s : ByteArray) (w : World) :
    Calls Tryz.prog 4 #[.slice a len cap, .string s] w fun e w' => e = .returned (.bool true) ∧ Below w.heap.size w w' := by
  have z : decide (300 < (len : Int)) = true := by simp; omega
  go_enter Tryz.func4, Tryz.ntmps4
  go_wp2
  go_ret
  exact ⟨rfl, Below.refl _ _⟩
theorem back_far (a : Option Addr) (len cap : Nat) (h : len ≤ 300) (s : ByteArray) (h2 : 1500 < s.size) (w : World) :
    Calls Tryz.prog 4 #[.slice a len cap, .string s] w fun e w' => e = .returned (.bool true) ∧ Below w.heap.size w w' := by
  have z : decide (300 < (len : Int)) = false := by simp; omega
  have z2 : decide (1500 < (s.size : Int)) = true := by simp; omega
  go_enter Tryz.func4, Tryz.ntmps4
  go_wp2
  go_ret
  exact ⟨rfl, Below.refl _ _⟩
theorem piecesFrom_some (n : Nat) (s : ByteArray) : 1 ≤ (piecesFrom n s).length := by
  cases n <;> unfold piecesFrom
  · simp
  · split <;> simp
theorem good_some {s : ByteArray} : 1 ≤ (piecesOf s).length := piecesFrom_some _ _
section
theorem back_any (he : ∀ w, ex.holds w → ErrTabs w) (hu : ∀ w, ex.holds w → Lib.Utf8Tabs 7 8 w) (a : Option Addr) (len cap : Nat) (s : ByteArray) (w : World) (hl : IsStepsF w a len) (hT : Tabs ex w) :
    Calls Tryz.prog 4 #[.slice a len cap, .string s] w fun e w' => e = .returned (.bool true) ∧ Below w.heap.size w w' := by
  by_cases k1 : 300 < len
  · exact back_long a len cap k1 s w
  by_cases k2 : 1500 < s.size
  · exact back_far a len cap (by omega) s k2 w
  have hroom := hT.room
  have HF := fun W hTW => written_fact (ex := ex) he hu W hTW
  have HB : ¬ GoodText s → ∀ W : World, Tabs ex W → Calls Tryz.prog 9 #[.string s] W fun e W' => (∃ ty v, e = .returned (.tuple #[.slice none 0 0, .iface ty v])) ∧ Below W.heap.size W W' :=
    fun hg W hTW => (read_any he hu s (by omega) W hTW).mono fun _ _ h => read_bad hg h
  have HR0 := fun (hg : GoodText s) (W : World) (hTW : Tabs ex W) => (read_any he hu s (by omega) W hTW).mono fun _ _ h => read_good hg h
  have HW2 := fun (hg : GoodText s) (W : World) (g o cap : Nat) (hs : StepsAt W g o (piecesOf s).length (tC s) (tD s) (tS s) (tR s) (tO s) (tN s)) (hb : g < W.heap.size) (hTW : Tabs ex W) => write_fine (cap := cap) (good_fine hg) (good_fits s) hs good_some hg.2.1 hb hTW
  have HR2 := fun (hg : GoodText s) (W : World) (hTW : Tabs ex W) => read_again he hu good_some hg.2.1 (good_fine hg) (good_fits s) W hTW
  have HS2 := fun (hg : GoodText s) (W : World) (ga oa ca gb ob cb : Nat) (h1 : StepsAt W ga oa (piecesOf s).length (tC s) (tD s) (tS s) (tR s) (tO s) (tN s)) (h2 : StepsAt W gb ob (piecesOf s).length (tC s) (tD s) (tS s) (tR s) (tO s) (tN s)) (h3 : ga < W.heap.size) (h4 : gb < W.heap.size) => keepSame ga oa ca gb ob cb _ _ _ _ _ _ _ W (by have := hg.2.1; omega) h1 h2 h3 h4
  have none : (∀ W, Below w.heap.size w W → Calls Tryz.prog 13 #[.slice a len cap] W fun e W' => (∃ ty v, e = .returned (.tuple #[.string ⟨#[]⟩, .iface ty v])) ∧ Below W.heap.size W W') → Calls Tryz.prog 4 #[.slice a len cap, .string s] w fun e w' => e = .returned (.bool true) ∧ Below w.heap.size w w' := fun HL => by
    by_cases hg : GoodText s
    · exact back_nt _ _ a len cap s (by omega) w hT hroom (by omega) HF HL (HR0 hg) (HW2 hg) (HR2 hg) (HS2 hg)
    · exact back_none he hu a len cap (by omega) s (by omega) w hT HL hg
  by_cases k3 : len < 1 ∨ 200 < len
  · exact none fun W hb => (write_limit a len cap k3 W).mono fun _ _ h => ⟨⟨_, _, h.1⟩, by rw [h.2]; exact Below.refl _ _⟩
  rcases hl with h0 | ⟨bk, off, C, D, S, O, N, R, rfl, hbk, hst, hfit⟩
  · omega
  rcases first_fault (faultAt len C D S R O N) len with h | ⟨i, hi, hno, hf⟩
  · have HW1 := fun (W : World) (g o cap : Nat) (hs : StepsAt W g o len C D S R O N) (hb : g < W.heap.size) (hTW : Tabs ex W) => write_fine (cap := cap) h hfit hs (by omega) (by omega) hb hTW
    have HR1 := fun (W : World) (hTW : Tabs ex W) => read_again he hu (by omega) (by omega) h hfit W hTW
    have HS1 := fun (W : World) (ga oa ca gb ob cb : Nat) (h1 : StepsAt W ga oa len C D S R O N) (h2 : StepsAt W gb ob len C D S R O N) (h3 : ga < W.heap.size) (h4 : gb < W.heap.size) => keepSame ga oa ca gb ob cb _ _ _ _ _ _ _ W (by omega) h1 h2 h3 h4
    by_cases hg : GoodText s
    · exact back_lt _ _ bk off len cap _ s (by omega) w hT hroom (by omega) HF hst hbk HW1 HR1 HS1 (HR0 hg) (HW2 hg) (HR2 hg) (HS2 hg)
    · exact back_ln bk off len cap _ s (by omega) w hT hroom (by omega) HF hst hbk HW1 HR1 HS1 (HB hg)
  · exact none fun W hb => (write_bad hi hno hf (hst.later hb hbk) (by omega) (by omega) (Nat.lt_of_lt_of_le hbk hb.size)).mono fun _ _ ⟨p, h1, h2, _⟩ => ⟨⟨_, _, h1⟩, h2⟩
end
end Go.Proofs.YtegeiicginpdbaaGreatDoor
