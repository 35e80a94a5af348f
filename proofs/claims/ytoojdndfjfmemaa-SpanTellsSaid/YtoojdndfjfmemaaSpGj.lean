/-
  SpanTells, whatever comes in.
-/
import Derived.Deep.DeepCutAuto
import Derived.Test.YtoojdndfjfmemaaSpG
namespace Go.Proofs.Ytoojdndfjfmemaa.Sp
open Go.RowKit Go.Proofs.Ytoojdndfjfmemaa.Num Go.Proofs.Ytoojdndfjfmemaa.Up
theorem spanTells (a b : P) (n : BitVec 64) (w : World) :
    Calls Try.prog 3 #[.agg #[.int .u64 (tn a.lo), .int .u64 (tn a.hi)], .agg #[.int .u64 (tn b.lo), .int .u64 (tn b.hi)], .int .i64 (ti n)] w fun e w' => e = .returned (.bool true) ∧ Below w.heap.size w w' := by
  cases h : leU a.lo a.hi
  · exact tells_no1 a b n h w
  · cases k : leU b.lo b.hi
    · exact tells_no2 a b n h k w
    · exact tells_yes a b n h k w
end Go.Proofs.Ytoojdndfjfmemaa.Sp
