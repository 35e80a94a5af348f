/-
  Contracts of the document's rows of instructions: Find, has, Atomic, Class, Size.
-/
import Derived.Test.YtpknnmnknaaccaaRefRow
namespace Go.Proofs.Ytpknnmnknaaccaa.Insn
open Go.RowKit Go.Proofs.Ytpknnmnknaaccaa.Num
def findR (op : Int) : RowV :=
  if op < 0 ∨ 255 < op then ⟨false, ⟨#[]⟩, false, 0, 0⟩
  else if op % 8 = 4 ∨ op % 8 = 7 then aluR op
  else if op % 8 = 5 ∨ op % 8 = 6 then jmpR op
  else if op % 8 = 0 then ⟨op == 24, ⟨#[100, 115, 105]⟩, true, -9223372036854775808, 9223372036854775807⟩
  else if op % 8 = 1 then ⟨op / 32 == 3, ⟨#[100, 115, 111]⟩, true, -2147483648, 2147483647⟩
  else if op % 8 = 2 then ⟨op / 32 == 3, ⟨#[100, 111, 105]⟩, false, -2147483648, 2147483647⟩
  else ⟨op / 32 == 3 || op == 195 || op == 219, if op / 32 = 6 then ⟨#[100, 115, 111, 105]⟩ else ⟨#[100, 115, 111]⟩, false, -2147483648, 2147483647⟩
end Go.Proofs.Ytpknnmnknaaccaa.Insn
