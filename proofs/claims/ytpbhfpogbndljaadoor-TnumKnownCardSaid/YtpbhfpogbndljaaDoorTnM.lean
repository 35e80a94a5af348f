/-
  What is known of tnums, bit by bit.
-/
import Derived.Test.YtpbhfpogbndljaaDoorTnB
namespace Go.Proofs.YtpbhfpogbndljaaDoor.Tn
open Go.RowKit Go.Proofs.YtpbhfpogbndljaaDoor.Num
theorem zero_iff (x : BitVec 64) : (x == 0#64) = true ↔ ∀ i, i < 64 → x.getLsbD i = false := by
  rw [beq_iff_eq]
  refine ⟨fun h i _ => by rw [h]; simp, fun h => ?_⟩
  apply BitVec.eq_of_getLsbD_eq
  intro i hi
  rw [h i hi]; simp
/-- A bit of a tnum: is it unknown, and if not, is it 1? -/
theorem lo_bit (a : T) (i : Nat) (h : i < 64) : a.lo.getLsbD i = (a.v.getLsbD i && !a.m.getLsbD i) := by unfold T.lo; simp [h]
theorem hi_bit (a : T) (i : Nat) : a.hi.getLsbD i = (a.v.getLsbD i || a.m.getLsbD i) := by unfold T.hi; simp
def wb (av am bv bm : Bool) : Bool := (am || ((av && !am) ^^ (bv && !bm))) && !bm
theorem within_iff (a b : T) : withinB a b = true ↔ ∀ i, i < 64 → wb (a.v.getLsbD i) (a.m.getLsbD i) (b.v.getLsbD i) (b.m.getLsbD i) = false := by
  unfold withinB
  rw [zero_iff]
  refine forall_congr' fun i => forall_congr' fun h => ?_
  rw [BitVec.getLsbD_and, BitVec.getLsbD_or, BitVec.getLsbD_xor, BitVec.getLsbD_not, lo_bit _ _ h, lo_bit _ _ h]
  simp [h, wb]
theorem in_iff (a : T) (v : BitVec 64) : inB a v = true ↔ ∀ i, i < 64 → wb (v.getLsbD i) false (a.v.getLsbD i) (a.m.getLsbD i) = false := by
  unfold inB
  rw [within_iff]
  simp [ofR]
theorem none_iff (a b : T) : noneB a b = false ↔ ∀ i, i < 64 → (((a.v.getLsbD i && !a.m.getLsbD i) || (b.v.getLsbD i && !b.m.getLsbD i)) && !((a.v.getLsbD i || a.m.getLsbD i) && (b.v.getLsbD i || b.m.getLsbD i))) = false := by
  unfold noneB
  rw [show ((a.lo ||| b.lo) &&& ~~~(a.hi &&& b.hi) != 0#64) = !((a.lo ||| b.lo) &&& ~~~(a.hi &&& b.hi) == 0#64) from rfl, Bool.not_eq_false', zero_iff]
  refine forall_congr' fun i => forall_congr' fun h => ?_
  rw [BitVec.getLsbD_and, BitVec.getLsbD_or, BitVec.getLsbD_not, BitVec.getLsbD_and, lo_bit _ _ h, lo_bit _ _ h, hi_bit, hi_bit]
  simp [h]
theorem some_bit (a : T) (v : BitVec 64) (i : Nat) (h : i < 64) : (a.lo ||| (v &&& a.m)).getLsbD i = ((a.v.getLsbD i && !a.m.getLsbD i) || (v.getLsbD i && a.m.getLsbD i)) := by
  rw [BitVec.getLsbD_or, BitVec.getLsbD_and, lo_bit _ _ h]
theorem join_v (a b : T) (i : Nat) (h : i < 64) : (joinR a b).v.getLsbD i = ((a.v.getLsbD i && !a.m.getLsbD i) && !(a.m.getLsbD i || b.m.getLsbD i || ((a.v.getLsbD i && !a.m.getLsbD i) ^^ (b.v.getLsbD i && !b.m.getLsbD i)))) := by
  unfold joinR exceptR
  simp only
  rw [BitVec.getLsbD_and, BitVec.getLsbD_not, BitVec.getLsbD_or, BitVec.getLsbD_or, BitVec.getLsbD_xor, lo_bit _ _ h, lo_bit _ _ h]
  simp [h]
theorem join_m (a b : T) (i : Nat) (h : i < 64) : (joinR a b).m.getLsbD i = (a.m.getLsbD i || b.m.getLsbD i || ((a.v.getLsbD i && !a.m.getLsbD i) ^^ (b.v.getLsbD i && !b.m.getLsbD i))) := by
  unfold joinR exceptR
  simp only
  rw [BitVec.getLsbD_or, BitVec.getLsbD_or, BitVec.getLsbD_xor, lo_bit _ _ h, lo_bit _ _ h]
theorem meet_v (a b : T) (hn : noneB a b = false) (i : Nat) (h : i < 64) : (meetR a b).v.getLsbD i = ((a.v.getLsbD i && !a.m.getLsbD i) || (b.v.getLsbD i && !b.m.getLsbD i)) := by
  unfold meetR betweenR
  rw [hn]
  simp only [Bool.false_eq_true, if_false]
  rw [BitVec.getLsbD_or, lo_bit _ _ h, lo_bit _ _ h]
theorem meet_m (a b : T) (hn : noneB a b = false) (i : Nat) (h : i < 64) : (meetR a b).m.getLsbD i = (((a.v.getLsbD i && !a.m.getLsbD i) || (b.v.getLsbD i && !b.m.getLsbD i)) ^^ ((a.v.getLsbD i || a.m.getLsbD i) && (b.v.getLsbD i || b.m.getLsbD i))) := by
  unfold meetR betweenR
  rw [hn]
  simp only [Bool.false_eq_true, if_false]
  rw [BitVec.getLsbD_xor, BitVec.getLsbD_or, BitVec.getLsbD_and, lo_bit _ _ h, lo_bit _ _ h, hi_bit, hi_bit]
theorem join_left (a b : T) : withinB a (joinR a b) = true := by
  rw [within_iff]
  intro i h
  rw [join_v _ _ _ h, join_m _ _ _ h]
  generalize a.v.getLsbD i = p; generalize a.m.getLsbD i = q; generalize b.v.getLsbD i = r; generalize b.m.getLsbD i = s
  revert p q r s; decide
theorem join_right (a b : T) : withinB b (joinR a b) = true := by
  rw [within_iff]
  intro i h
  rw [join_v _ _ _ h, join_m _ _ _ h]
  generalize a.v.getLsbD i = p; generalize a.m.getLsbD i = q; generalize b.v.getLsbD i = r; generalize b.m.getLsbD i = s
  revert p q r s; decide
theorem join_least (a b c : T) (h1 : withinB a c = true) (h2 : withinB b c = true) : withinB (joinR a b) c = true := by
  rw [within_iff] at h1 h2 ⊢
  intro i h
  have k1 := h1 i h; have k2 := h2 i h
  rw [join_v _ _ _ h, join_m _ _ _ h]
  revert k1 k2
  generalize a.v.getLsbD i = p; generalize a.m.getLsbD i = q; generalize b.v.getLsbD i = r; generalize b.m.getLsbD i = s; generalize c.v.getLsbD i = t; generalize c.m.getLsbD i = u
  revert p q r s t u; decide
theorem within_self (a : T) : withinB a a = true := by
  rw [within_iff]
  intro i _
  generalize a.v.getLsbD i = p; generalize a.m.getLsbD i = q
  revert p q; decide
theorem within_in (a b : T) (v : BitVec 64) (h : withinB a b = true) : inB b (a.lo ||| (v &&& a.m)) = true := by
  rw [within_iff] at h
  rw [in_iff]
  intro i hi
  have k := h i hi
  rw [some_bit _ _ _ hi]
  revert k
  generalize a.v.getLsbD i = p; generalize a.m.getLsbD i = q; generalize b.v.getLsbD i = r; generalize b.m.getLsbD i = s; generalize v.getLsbD i = t
  revert p q r s t; decide
theorem some_in (a : T) (v : BitVec 64) : inB a (a.lo ||| (v &&& a.m)) = true := within_in a a v (within_self a)
theorem of_in (v : BitVec 64) : inB (ofR v) v = true := within_self _
theorem within_all (a : T) : withinB a ⟨0#64, BitVec.allOnes 64⟩ = true := by
  rw [within_iff]
  intro i h
  have e : (BitVec.allOnes 64).getLsbD i = true := by rw [BitVec.getLsbD_allOnes]; simp [h]
  show wb _ _ _ ((BitVec.allOnes 64).getLsbD i) = false
  rw [e]
  simp [wb]
theorem meet_none (a b : T) (v : BitVec 64) (h : inB b (a.lo ||| (v &&& a.m)) = true) : noneB a b = false := by
  rw [in_iff] at h
  rw [none_iff]
  intro i hi
  have k := h i hi
  rw [some_bit _ _ _ hi] at k
  revert k
  generalize a.v.getLsbD i = p; generalize a.m.getLsbD i = q; generalize b.v.getLsbD i = r; generalize b.m.getLsbD i = s; generalize v.getLsbD i = t
  revert p q r s t; decide
theorem meet_has (a b : T) (v : BitVec 64) (h : inB b (a.lo ||| (v &&& a.m)) = true) : inB (meetR a b) (a.lo ||| (v &&& a.m)) = true := by
  have hn := meet_none a b v h
  rw [in_iff] at h ⊢
  intro i hi
  have k := h i hi
  rw [some_bit _ _ _ hi] at k
  rw [some_bit _ _ _ hi, meet_v _ _ hn _ hi, meet_m _ _ hn _ hi]
  revert k
  generalize a.v.getLsbD i = p; generalize a.m.getLsbD i = q; generalize b.v.getLsbD i = r; generalize b.m.getLsbD i = s; generalize v.getLsbD i = t
  revert p q r s t; decide
theorem meet_left (a b : T) (hn : noneB a b = false) : withinB (meetR a b) a = true := by
  rw [within_iff]
  intro i hi
  have k := (none_iff a b).1 hn i hi
  rw [meet_v _ _ hn _ hi, meet_m _ _ hn _ hi]
  revert k
  generalize a.v.getLsbD i = p; generalize a.m.getLsbD i = q; generalize b.v.getLsbD i = r; generalize b.m.getLsbD i = s
  revert p q r s; decide
theorem meet_right (a b : T) (hn : noneB a b = false) : withinB (meetR a b) b = true := by
  rw [within_iff]
  intro i hi
  have k := (none_iff a b).1 hn i hi
  rw [meet_v _ _ hn _ hi, meet_m _ _ hn _ hi]
  revert k
  generalize a.v.getLsbD i = p; generalize a.m.getLsbD i = q; generalize b.v.getLsbD i = r; generalize b.m.getLsbD i = s
  revert p q r s; decide
theorem ways_two (p q : Bool) : p = false ∨ (p = true ∧ q = false) ∨ (p = true ∧ q = true) := by cases p <;> cases q <;> simp
theorem ways_meet (a b : T) (v : BitVec 64) : (inB b (a.lo ||| (v &&& a.m)) = true ∧ noneB a b = false) ∨ (inB b (a.lo ||| (v &&& a.m)) = false ∧ noneB a b = false) ∨ (inB b (a.lo ||| (v &&& a.m)) = false ∧ noneB a b = true) := by
  cases h : inB b (a.lo ||| (v &&& a.m))
  · cases noneB a b <;> simp
  · exact .inl ⟨rfl, meet_none a b v h⟩
theorem bool_two (p : Bool) : p = false ∨ p = true := by cases p <;> simp
end Go.Proofs.YtpbhfpogbndljaaDoor.Tn
