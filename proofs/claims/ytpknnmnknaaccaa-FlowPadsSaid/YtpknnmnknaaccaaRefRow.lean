/-
  Contracts of the document's rows of instructions: alu, jmp, Find, has.
-/
import Derived.Test.YtpknnmnknaaccaaRows
import Derived.Test.YtpknnmnknaaccaaNum
import Derived.WalkKit
import Derived.WalkSpells
import Derived.WalkLawsBesides
namespace Go.Proofs.Ytpknnmnknaaccaa.Insn
open Go.RowKit Go.Proofs.Ytpknnmnknaaccaa.Num
/-- A row of the table: is it one; which fields it names; is Dst written; from where to where Imm is. -/
structure RowV where
  is : Bool
  f : ByteArray
  wr : Bool
  lo : Int
  hi : Int
def RowV.val (r : RowV) : Value := .agg #[.bool r.is, .string r.f, .bool r.wr, .int .i64 r.lo, .int .i64 r.hi]
def aluR (op : Int) : RowV :=
  if op / 16 = 13 then ⟨op % 8 == 4, ⟨#[100, 105]⟩, true, -2147483648, 2147483647⟩
  else if op / 16 = 8 then ⟨!(op / 8 % 2 == 1), ⟨#[100]⟩, true, -2147483648, 2147483647⟩
  else if op / 8 % 2 = 1 then ⟨decide (op / 16 ≤ 12), ⟨#[100, 115]⟩, true, -2147483648, 2147483647⟩
  else if op / 16 = 6 ∨ op / 16 = 7 ∨ op / 16 = 12 then ⟨true, ⟨#[100, 105]⟩, true, 0, if op % 8 = 7 then 63 else 31⟩
  else ⟨decide (op / 16 ≤ 12), ⟨#[100, 105]⟩, true, -2147483648, 2147483647⟩
def jmpC (c : Int) : Bool := decide (1 ≤ c) && decide (c ≤ 7) || decide (10 ≤ c) && decide (c ≤ 13)
def jmpR (op : Int) : RowV :=
  if op = 5 then ⟨true, ⟨#[111]⟩, false, -2147483648, 2147483647⟩
  else if op = 133 then ⟨true, ⟨#[105]⟩, false, -2147483648, 2147483647⟩
  else if op = 149 then ⟨true, ⟨#[]⟩, false, -2147483648, 2147483647⟩
  else if op / 8 % 2 = 1 then ⟨jmpC (op / 16), ⟨#[100, 115, 111]⟩, false, -2147483648, 2147483647⟩
  else ⟨jmpC (op / 16), ⟨#[100, 111, 105]⟩, false, -2147483648, 2147483647⟩
end Go.Proofs.Ytpknnmnknaaccaa.Insn
