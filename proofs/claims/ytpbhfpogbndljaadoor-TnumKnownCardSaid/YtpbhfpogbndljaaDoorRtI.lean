/-
  The document's answers are the program's: Within, In, Cut, Meet, noughts, Mul. Plain facts: no program is looked at here.
-/
import Derived.Test.YtpbhfpogbndljaaDoorRtH
import Derived.Test.YtpbhfpogbndljaaDoorTnM
import Derived.Test.YtpbhfpogbndljaaDoorTnD
import Derived.Test.YtpbhfpogbndljaaDoorTnZ
namespace Go.Proofs.YtpbhfpogbndljaaDoor.Rt
open Go.RowKit Go.Proofs.YtpbhfpogbndljaaDoor.Num Go.Proofs.YtpbhfpogbndljaaDoor.Up Go.Proofs.YtpbhfpogbndljaaDoor.Tn
theorem within_eq (a b : T) : refWithin (toP a) (toP b) = withinB a b := by
  rw [Bool.eq_iff_iff, Tn.within_iff]
  unfold refWithin
  rw [allTo_iff]
  refine forall_congr' fun i => forall_congr' fun h => ?_
  cases a with | mk v m => cases b with | mk u k =>
  simp only [withinF, ofB, toP]
  cases v.getLsbD i <;> cases m.getLsbD i <;> cases u.getLsbD i <;> cases k.getLsbD i <;> decide
theorem in_eq (a : T) (v : BitVec 64) : refIn (toP a) v = inB a v := by
  rw [Bool.eq_iff_iff, in_iff]
  unfold refIn
  rw [allTo_iff]
  refine forall_congr' fun i => forall_congr' fun h => ?_
  cases a with | mk u k =>
  simp only [inF, ofB, toP]
  cases v.getLsbD i <;> cases u.getLsbD i <;> cases k.getLsbD i <;> decide
theorem cut_eq (a : T) : refAnd (toP a) (P.mk 4294967295#64 0#64) = toP (cutR a) := and_eq a (ofR 4294967295#64)
theorem meets (a b : T) : allTo (meetF (ofB (toP a)) (ofB (toP b))) 64 = !noneB a b := by
  rw [Bool.eq_iff_iff, Bool.not_eq_true', none_iff, allTo_iff]
  refine forall_congr' fun i => forall_congr' fun h => ?_
  cases a with | mk v m => cases b with | mk u k =>
  simp only [meetF, ofB, toP]
  cases v.getLsbD i <;> cases m.getLsbD i <;> cases u.getLsbD i <;> cases k.getLsbD i <;> decide
theorem meet_eq (a b : T) : refMeet (toP a) (toP b) = (toP (meetR a b), !noneB a b) := by
  unfold refMeet
  rw [meets]
  cases hn : noneB a b
  · have hb := (none_iff a b).1 hn
    rw [cond_t (show (!false) = true from rfl)]
    refine Prod.ext ?_ rfl
    unfold meetR
    rw [hn]
    cases a with | mk v m => cases b with | mk u k =>
    refine P_ext (fun i h => ?_) (fun i h => ?_)
    · have hb := hb i h
      show (tnumB _).lo.getLsbD i = _
      rw [tnumB_lo _ i h]
      revert hb
      simp only [toP, betweenR, T.lo, T.hi, meetB, ofB, BitVec.getLsbD_and, BitVec.getLsbD_or, BitVec.getLsbD_not, h, decide_true, Bool.true_and, Bool.false_eq_true, if_false]
      cases v.getLsbD i <;> cases m.getLsbD i <;> cases u.getLsbD i <;> cases k.getLsbD i <;> decide
    · have hb := hb i h
      show (tnumB _).hi.getLsbD i = _
      rw [tnumB_hi _ i h]
      revert hb
      simp only [toP, betweenR, T.lo, T.hi, meetB, ofB, BitVec.getLsbD_and, BitVec.getLsbD_or, BitVec.getLsbD_xor, BitVec.getLsbD_not, h, decide_true, Bool.true_and, Bool.false_eq_true, if_false]
      cases v.getLsbD i <;> cases m.getLsbD i <;> cases u.getLsbD i <;> cases k.getLsbD i <;> decide
  · rw [cond_f (show (!true) = false from rfl)]
    unfold meetR
    rw [hn]
    rfl
theorem nou_tz (a : T) : TZ a.hi (nou (toP a)) := by
  have e : ∀ i, noO (toP a) i = !a.hi.getLsbD i := fun i => by
    rw [hi_bit]; unfold noO ofB toP; simp only; cases a.v.getLsbD i <;> cases a.m.getLsbD i <;> rfl
  by_cases z : ∃ r, r < 64 ∧ a.hi.getLsbD r = true ∧ ∀ j, j < r → a.hi.getLsbD j = false
  · obtain ⟨r, hr, h1, h2⟩ := z
    have : nou (toP a) = r := runs_is (by omega) ((allTo_iff _ _).2 fun i hi => by rw [e, h2 i hi]; rfl) (.inr (by rw [e, h1]; rfl))
    rw [this]
    exact .inl ⟨hr, h1, h2⟩
  · have hz : ∀ n, n ≤ 64 → ∀ j, j < n → a.hi.getLsbD j = false := by
      intro n
      induction n with
      | zero => intro _ j hj; omega
      | succ n ih =>
        intro hn j hj
        have ih := ih (by omega)
        by_cases hjn : j < n
        · exact ih j hjn
        · have : j = n := by omega
          subst this
          cases hb : a.hi.getLsbD j
          · rfl
          · exact absurd ⟨j, by omega, hb, ih⟩ z
    have : nou (toP a) = 64 := runs_is (by omega) ((allTo_iff _ _).2 fun i hi => by rw [e, hz 64 (by omega) i hi]; rfl) (.inl rfl)
    rw [this]
    refine .inr ⟨rfl, ?_⟩
    apply BitVec.eq_of_getLsbD_eq
    intro i hi
    rw [hz 64 (by omega) i hi]; simp
end Go.Proofs.YtpbhfpogbndljaaDoor.Rt
