/-
  Contracts of the document's rows of instructions: ranged.
-/
import Derived.Test.YtpknnmnknaaccaaRefHas
namespace Go.Proofs.Ytpknnmnknaaccaa.Insn
open Go.RowKit Go.Proofs.Ytpknnmnknaaccaa.Num
def insnV (op d s o m : Int) : Value := .agg #[.int .i64 op, .int .i64 d, .int .i64 s, .int .i64 o, .int .i64 m]
def rangedB (op s m lo hi : Int) : Bool :=
  if m < lo ∨ hi < m then false
  else if op = 195 ∨ op = 219 then atomIs m
  else if op = 212 ∨ op = 220 then m == 16 || m == 32 || m == 64
  else if op = 24 then s == 0 || (decide (0 ≤ m) && decide (m ≤ 2147483647))
  else true
end Go.Proofs.Ytpknnmnknaaccaa.Insn
