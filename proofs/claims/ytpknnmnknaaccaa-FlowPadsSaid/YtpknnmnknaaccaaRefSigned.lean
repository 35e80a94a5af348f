/-
  Contracts of the document's instructions: signed.
-/
import Derived.Test.YtpknnmnknaaccaaRefE
namespace Go.Proofs.Ytpknnmnknaaccaa.Insn
open Go.RowKit Go.Proofs.Ytpknnmnknaaccaa.Num Go.Proofs.Ytpknnmnknaaccaa.Bytes Go.Proofs.Ytpknnmnknaaccaa.RefB
/-- The number of n bytes from k on, without its sign. -/
def numAt (zs : List Int) (k n : Nat) : Nat := leV (fun j => (zs.getD (k + j) 0).toNat) n
/-- A number of n bytes, n one of 2, 4, 8, with its sign. -/
def signR (u n : Nat) : Int := if u < 256 ^ n / 2 then (u : Int) else (u : Int) - 256 ^ n
end Go.Proofs.Ytpknnmnknaaccaa.Insn
