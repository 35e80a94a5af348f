/-
  The document's answers are the program's: And, Or, Xor, Join, Cut of bits. Plain facts: no program is looked at here.
-/
import Derived.Test.YtpbhfpogbndljaaDoorRtG
import Derived.Test.YtpbhfpogbndljaaDoorTnB
namespace Go.Proofs.YtpbhfpogbndljaaDoor.Rt
open Go.RowKit Go.Proofs.YtpbhfpogbndljaaDoor.Num Go.Proofs.YtpbhfpogbndljaaDoor.Up Go.Proofs.YtpbhfpogbndljaaDoor.Tn
def toP (x : T) : P := ⟨x.v, x.m⟩
theorem and_eq (a b : T) : refAnd (toP a) (toP b) = toP (andR a b) := by
  cases a with | mk v m => cases b with | mk u k =>
  refine P_ext (fun i h => ?_) (fun i h => ?_)
  · show (tnumB _).lo.getLsbD i = _
    rw [tnumB_lo _ i h]
    simp only [toP, andR, betweenR, T.lo, T.hi, andB, ofB, BitVec.getLsbD_and, BitVec.getLsbD_not, h, decide_true, Bool.true_and]
    cases v.getLsbD i <;> cases m.getLsbD i <;> cases u.getLsbD i <;> cases k.getLsbD i <;> rfl
  · show (tnumB _).hi.getLsbD i = _
    rw [tnumB_hi _ i h]
    simp only [toP, andR, betweenR, T.lo, T.hi, andB, ofB, BitVec.getLsbD_and, BitVec.getLsbD_or, BitVec.getLsbD_xor, BitVec.getLsbD_not, h, decide_true, Bool.true_and]
    cases v.getLsbD i <;> cases m.getLsbD i <;> cases u.getLsbD i <;> cases k.getLsbD i <;> rfl
theorem or_eq (a b : T) : refOr (toP a) (toP b) = toP (orR a b) := by
  cases a with | mk v m => cases b with | mk u k =>
  refine P_ext (fun i h => ?_) (fun i h => ?_)
  · show (tnumB _).lo.getLsbD i = _
    rw [tnumB_lo _ i h]
    simp only [toP, orR, betweenR, T.lo, T.hi, orB, ofB, BitVec.getLsbD_and, BitVec.getLsbD_or, BitVec.getLsbD_not, h, decide_true, Bool.true_and]
    cases v.getLsbD i <;> cases m.getLsbD i <;> cases u.getLsbD i <;> cases k.getLsbD i <;> rfl
  · show (tnumB _).hi.getLsbD i = _
    rw [tnumB_hi _ i h]
    simp only [toP, orR, betweenR, T.lo, T.hi, orB, ofB, BitVec.getLsbD_and, BitVec.getLsbD_or, BitVec.getLsbD_xor, BitVec.getLsbD_not, h, decide_true, Bool.true_and]
    cases v.getLsbD i <;> cases m.getLsbD i <;> cases u.getLsbD i <;> cases k.getLsbD i <;> rfl
theorem xor_eq (a b : T) : refXor (toP a) (toP b) = toP (xorR a b) := by
  cases a with | mk v m => cases b with | mk u k =>
  refine P_ext (fun i h => ?_) (fun i h => ?_)
  · show (tnumB _).lo.getLsbD i = _
    rw [tnumB_lo _ i h]
    simp only [toP, xorR, exceptR, T.lo, xorB, ofB, BitVec.getLsbD_and, BitVec.getLsbD_or, BitVec.getLsbD_xor, BitVec.getLsbD_not, h, decide_true, Bool.true_and]
    cases v.getLsbD i <;> cases m.getLsbD i <;> cases u.getLsbD i <;> cases k.getLsbD i <;> rfl
  · show (tnumB _).hi.getLsbD i = _
    rw [tnumB_hi _ i h]
    simp only [toP, xorR, exceptR, T.lo, xorB, ofB, BitVec.getLsbD_or]
    cases v.getLsbD i <;> cases m.getLsbD i <;> cases u.getLsbD i <;> cases k.getLsbD i <;> rfl
theorem join_eq (a b : T) : refJoin (toP a) (toP b) = toP (joinR a b) := by
  cases a with | mk v m => cases b with | mk u k =>
  refine P_ext (fun i h => ?_) (fun i h => ?_)
  · show (tnumB _).lo.getLsbD i = _
    rw [tnumB_lo _ i h]
    simp only [toP, joinR, exceptR, T.lo, joinB, ofB, BitVec.getLsbD_and, BitVec.getLsbD_or, BitVec.getLsbD_xor, BitVec.getLsbD_not, h, decide_true, Bool.true_and]
    cases v.getLsbD i <;> cases m.getLsbD i <;> cases u.getLsbD i <;> cases k.getLsbD i <;> rfl
  · show (tnumB _).hi.getLsbD i = _
    rw [tnumB_hi _ i h]
    simp only [toP, joinR, exceptR, T.lo, joinB, ofB, BitVec.getLsbD_and, BitVec.getLsbD_or, BitVec.getLsbD_xor, BitVec.getLsbD_not, h, decide_true, Bool.true_and]
    cases v.getLsbD i <;> cases m.getLsbD i <;> cases u.getLsbD i <;> cases k.getLsbD i <;> rfl
end Go.Proofs.YtpbhfpogbndljaaDoor.Rt
