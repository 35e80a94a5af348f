/-
  The law's own struct.
-/
import Derived.Deep.DeepCutAuto
import Derived.Test.YtoojdndfjfmemaaOps
namespace Go.Proofs.Ytoojdndfjfmemaa.Sp
open Go.RowKit Go.Proofs.Ytoojdndfjfmemaa.Num Go.Proofs.Ytoojdndfjfmemaa.Up
structure Near where
  A : P
  B : P
  V : BitVec 64
  W : BitVec 64
  N : BitVec 64
end Go.Proofs.Ytoojdndfjfmemaa.Sp
