/-
  SpanSigned, whatever comes in.
-/
import Derived.Deep.DeepCutAuto
import Derived.Test.YtoojdndfjfmemaaSpH
namespace Go.Proofs.Ytoojdndfjfmemaa.Sp
open Go.RowKit Go.Proofs.Ytoojdndfjfmemaa.Num Go.Proofs.Ytoojdndfjfmemaa.Up
theorem spanSigned (a b : P) (n : BitVec 64) (w : World) :
    Calls Try.prog 4 #[.agg #[.int .i64 (ti a.lo), .int .i64 (ti a.hi)], .agg #[.int .i64 (ti b.lo), .int .i64 (ti b.hi)], .int .i64 (ti n)] w fun e w' => e = .returned (.bool true) ∧ Below w.heap.size w w' := by
  cases h : leI a.lo a.hi
  · exact signed_no1 a b n h w
  · cases k : leI b.lo b.hi
    · exact signed_no2 a b n h k w
    · exact signed_yes a b n h k w
end Go.Proofs.Ytoojdndfjfmemaa.Sp
