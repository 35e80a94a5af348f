/-
  Contracts of the document's answers for bytes: there, Get, Put.
-/
import Derived.Test.YtpknnmnknaaccaaBytesA
import Derived.Test.YtpknnmnknaaccaaListB
namespace Go.Proofs.Ytpknnmnknaaccaa.RefB
open Go.RowKit Go.Proofs.Ytpknnmnknaaccaa.Num Go.Proofs.Ytpknnmnknaaccaa.ListB Go.Proofs.Ytpknnmnknaaccaa.Bytes
/-- What a round of the document's reading does. -/
theorem leV_down (F : Nat → Nat) (m k : Nat) (hk : k + 1 ≤ m) : 256 * leV (fun j => F (j + (k + 1))) (m - (k + 1)) + F k = leV (fun j => F (j + k)) (m - k) := by
  rw [show m - k = (m - (k + 1)) + 1 by omega, leV_top, Nat.zero_add, Nat.add_comm]
  congr 2
  apply leV_ext; intro j _
  rw [show j + (k + 1) = j + 1 + k by omega]
end Go.Proofs.Ytpknnmnknaaccaa.RefB
