/-
  Contracts of the document's instructions: laid.
-/
import Derived.Test.YtpknnmnknaaccaaRefHas
import Derived.Test.YtpknnmnknaaccaaListA
namespace Go.Proofs.Ytpknnmnknaaccaa.Insn
open Go.RowKit Go.Proofs.Ytpknnmnknaaccaa.Num Go.Proofs.Ytpknnmnknaaccaa.ListB
/-- The k lowest bytes of a number, the lowest first. -/
def laidL (u n : Nat) : List Int := (List.range n).map fun k => ((u / 256 ^ k % 256 : Nat) : Int)
theorem laidL_snoc (u k : Nat) : V (laidL u k) ++ [.int .u8 ((u / 256 ^ k % 256 : Nat) : Int)] = V (laidL u (k + 1)) := by
  unfold laidL V; rw [List.range_succ]; simp
theorem laid_step (u k : Nat) : u / 256 ^ (k + 1) = u / 256 ^ k / 256 := by
  rw [Nat.pow_succ, Nat.div_div_eq_div_mul]
theorem laid_le (u k : Nat) : u / 256 ^ k ≤ u := Nat.div_le_self _ _
/-- What a number of 64 bits is without its sign. -/
def unsig (v : Int) : Nat := (v % 18446744073709551616).toNat
theorem unsig_of (v : Int) : ((unsig v : Nat) : Int) = v % 18446744073709551616 := by unfold unsig; omega
theorem unsig_lt (v : Int) : unsig v < 18446744073709551616 := by unfold unsig; omega
end Go.Proofs.Ytpknnmnknaaccaa.Insn
