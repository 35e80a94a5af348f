/-
  Contracts of the document's rows of instructions: Check.
-/
import Derived.Test.YtpknnmnknaaccaaRefRanged
import Derived.Deep.DeepCutAuto
namespace Go.Proofs.Ytpknnmnknaaccaa.Insn
open Go.RowKit Go.Proofs.Ytpknnmnknaaccaa.Num
def atB (op : Int) : Bool := op == 195 || op == 219
def regB (op d s m : Int) (wr : Bool) : Bool := decide (d < 0) || decide (10 < d) || decide (s < 0) || decide (10 < s) || (wr && d == 10) || (atB op && atomF m && s == 10)
def fieldB (op d s o m : Int) (f : ByteArray) : Bool := (!hasB f 100 && d != 0) || (!hasB f 115 && s != 0) || (!hasB f 111 && o != 0) || (!hasB f 105 && m != 0) || (op == 24 && decide (1 < s))
def rangeB (op s o m lo hi : Int) : Bool := decide (o < -32768) || decide (32767 < o) || !rangedB op s m lo hi
def chkR (op d s o m : Int) (r : RowV) : Int :=
  if r.is = false then 7 else if regB op d s m r.wr then 8 else if fieldB op d s o m r.f then 9 else if rangeB op s o m r.lo r.hi then 10 else 0
def chk (op d s o m : Int) : Int := chkR op d s o m (findR op)
theorem aluR_f (op : Int) : (aluR op).f.size ≤ 4 := by
  unfold aluR
  repeat' split
  all_goals exact Nat.le_of_ble_eq_true rfl
theorem jmpR_f (op : Int) : (jmpR op).f.size ≤ 4 := by
  unfold jmpR
  repeat' split
  all_goals exact Nat.le_of_ble_eq_true rfl
theorem findR_f (op : Int) : (findR op).f.size ≤ 9223372036854775807 := by
  refine Nat.le_trans ?_ (Nat.le_of_ble_eq_true rfl : 4 ≤ 9223372036854775807)
  unfold findR
  repeat' split
  all_goals first | exact aluR_f op | exact jmpR_f op | exact Nat.le_of_ble_eq_true rfl
end Go.Proofs.Ytpknnmnknaaccaa.Insn
