/-
  SpanTurns, whatever comes in.
-/
import Derived.Deep.DeepCutAuto
import Derived.Test.YtoojdndfjfmemaaSpI
namespace Go.Proofs.Ytoojdndfjfmemaa.Sp
open Go.RowKit Go.Proofs.Ytoojdndfjfmemaa.Num Go.Proofs.Ytoojdndfjfmemaa.Up
theorem spanTurns (a b t : P) (w : World) :
    Calls Try.prog 5 #[.agg #[.int .u64 (tn a.lo), .int .u64 (tn a.hi)], .agg #[.int .i64 (ti b.lo), .int .i64 (ti b.hi)], .agg #[.int .u64 (tn t.lo), .int .u64 (tn t.hi)]] w fun e w' => e = .returned (.bool true) ∧ Below w.heap.size w w' := by
  cases h : leU a.lo a.hi <;> cases k : leI b.lo b.hi <;> cases l : (t.lo &&& t.hi == 0#64)
  · exact turns_0 a b t h k l w
  · exact turns_4 a b t h k l w
  · exact turns_2 a b t h k l w
  · exact turns_6 a b t h k l w
  · exact turns_1 a b t h k l w
  · exact turns_5 a b t h k l w
  · exact turns_3 a b t h k l w
  · exact turns_7 a b t h k l w
end Go.Proofs.Ytoojdndfjfmemaa.Sp
