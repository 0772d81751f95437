/-
  Two tables that are the same are told to be the same. Conditions: none.
-/
import Derived.Test.YtegeiicginpdbaaDoorDocRun2
namespace Go.Proofs.YtegeiicginpdbaaDoor
open Go.ChangeShapes Go.WideShapes Go.ChangeAt Go.RowKit
theorem row_eq (d : Nat) (a b c e : Int) (w : World) : (Op.equalIn (d + 1 + 1) 59 (.agg #[.int .i64 a, .int .i64 b, .int .i64 c, .int .i64 e]) (.agg #[.int .i64 a, .int .i64 b, .int .i64 c, .int .i64 e])).run Tryd.prog w = .ok true w := by
  have u2 := Tryd.underlying2
  have a2 := Tryd.isAgg2
  have z2 := Tryd.sizeOf2
  rw [Op.equalIn]
  simp only [Sem.run_bind, run_underlying Tryd.underlying59, Result.andThen_ok]
  simp only [Std.Legacy.Range.forIn_eq_forIn_range', Std.Legacy.Range.size, Nat.sub_zero, Nat.add_sub_cancel, Nat.div_one, List.range'_succ, List.range'_zero, List.forIn_cons, List.forIn_nil]
  go_simp
theorem tab_eq (a : Abs) (w : World) : (Op.equalIn 10000 61 (.agg #[.int .i64 (a.cel 0), .int .i64 (a.cel 1), .int .i64 (a.cel 2), .int .i64 (a.cel 3), .int .i64 (a.cel 4), .int .i64 (a.cel 5), .int .i64 (a.cel 6), .int .i64 (a.cel 7), .int .i64 (a.cel 8), .int .i64 (a.cel 9), .int .i64 (a.cel 10), .int .i64 (a.cel 11), .int .i64 (a.cel 12), .int .i64 (a.cel 13), .int .i64 (a.cel 14), .int .i64 (a.cel 15)]) (.agg #[.int .i64 (a.cel 0), .int .i64 (a.cel 1), .int .i64 (a.cel 2), .int .i64 (a.cel 3), .int .i64 (a.cel 4), .int .i64 (a.cel 5), .int .i64 (a.cel 6), .int .i64 (a.cel 7), .int .i64 (a.cel 8), .int .i64 (a.cel 9), .int .i64 (a.cel 10), .int .i64 (a.cel 11), .int .i64 (a.cel 12), .int .i64 (a.cel 13), .int .i64 (a.cel 14), .int .i64 (a.cel 15)])).run Tryd.prog w = .ok true w := by
  have u2 := Tryd.underlying59
  have a2 := Tryd.isAgg59
  have z2 := Tryd.sizeOf59
  have hr := row_eq 9997
  rw [show (10000 : Nat) = 9999 + 1 from rfl, Op.equalIn]
  simp only [Sem.run_bind, run_underlying Tryd.underlying61, Result.andThen_ok]
  simp only [Std.Legacy.Range.forIn_eq_forIn_range', Std.Legacy.Range.size, Nat.sub_zero, Nat.add_sub_cancel, Nat.div_one, List.range'_succ, List.range'_zero, List.forIn_cons, List.forIn_nil]
  go_simp
end Go.Proofs.YtegeiicginpdbaaDoor
