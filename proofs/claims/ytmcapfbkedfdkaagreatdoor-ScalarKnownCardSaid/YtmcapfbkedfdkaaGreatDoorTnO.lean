/-
  What operations make of numbers of tnums is in what the calls make.
-/
import Derived.Test.YtmcapfbkedfdkaaGreatDoorTnN
import Derived.Test.YtmcapfbkedfdkaaGreatDoorTnD
namespace Go.Proofs.YtmcapfbkedfdkaaGreatDoor.Tn
open Go.RowKit Go.Proofs.YtmcapfbkedfdkaaGreatDoor.Num
theorem and_in (a b : T) (v w : BitVec 64) : inB (andR a b) (someR a v &&& someR b w) = true := by
 rw [in_iff]
 intro i hi
 unfold andR betweenR someR
 simp only
 rw [BitVec.getLsbD_xor, BitVec.getLsbD_and, BitVec.getLsbD_and, BitVec.getLsbD_and, some_bit _ _ _ hi, some_bit _ _ _ hi, lo_bit _ _ hi, lo_bit _ _ hi, hi_bit, hi_bit]
 generalize a.v.getLsbD i = p; generalize a.m.getLsbD i = q; generalize b.v.getLsbD i = r; generalize b.m.getLsbD i = s; generalize v.getLsbD i = t; generalize w.getLsbD i = u
 revert p q r s t u; decide
theorem or_in (a b : T) (v w : BitVec 64) : inB (orR a b) (someR a v ||| someR b w) = true := by
 rw [in_iff]
 intro i hi
 have s1 : (someR a v).getLsbD i = ((a.v.getLsbD i && !a.m.getLsbD i) || (v.getLsbD i && a.m.getLsbD i)) := some_bit a v i hi
 have s2 : (someR b w).getLsbD i = ((b.v.getLsbD i && !b.m.getLsbD i) || (w.getLsbD i && b.m.getLsbD i)) := some_bit b w i hi
 unfold orR betweenR
 simp only [BitVec.getLsbD_or, BitVec.getLsbD_xor]
 rw [s1, s2, lo_bit _ _ hi, lo_bit _ _ hi, hi_bit, hi_bit]
 generalize a.v.getLsbD i = p; generalize a.m.getLsbD i = q; generalize b.v.getLsbD i = r; generalize b.m.getLsbD i = s; generalize v.getLsbD i = t; generalize w.getLsbD i = u
 revert p q r s t u; decide
theorem xor_in (a b : T) (v w : BitVec 64) : inB (xorR a b) (someR a v ^^^ someR b w) = true := by
 rw [in_iff]
 intro i hi
 unfold xorR exceptR someR
 simp only
 rw [BitVec.getLsbD_xor, BitVec.getLsbD_and (x := a.lo ^^^ b.lo), BitVec.getLsbD_xor, BitVec.getLsbD_not, BitVec.getLsbD_or (x := a.m), some_bit _ _ _ hi, some_bit _ _ _ hi, lo_bit _ _ hi, lo_bit _ _ hi]
 simp only [hi, decide_true, Bool.true_and]
 generalize a.v.getLsbD i = p; generalize a.m.getLsbD i = q; generalize b.v.getLsbD i = r; generalize b.m.getLsbD i = s; generalize v.getLsbD i = t; generalize w.getLsbD i = u
 revert p q r s t u; decide
theorem sub_not (x y : BitVec 64) : x - y = ~~~(~~~x + y) := by
 apply BitVec.eq_of_toNat_eq
 rw [BitVec.toNat_sub, BitVec.toNat_not, BitVec.toNat_add, BitVec.toNat_not]
 have := x.isLt; have := y.isLt
 omega
theorem sub_bit (x y : BitVec 64) (i : Nat) (hi : i < 64) : (x - y).getLsbD i = !((!x.getLsbD i) ^^ (y.getLsbD i ^^ BitVec.carry i (~~~x) y false)) := by
 rw [sub_not, BitVec.getLsbD_not, BitVec.getLsbD_add hi, BitVec.getLsbD_not]
 simp [hi]
theorem not_le {x y : BitVec 64} (h : ∀ i, x.getLsbD i = true → y.getLsbD i = true) (i : Nat) : (~~~y).getLsbD i = true → (~~~x).getLsbD i = true := by
 rw [BitVec.getLsbD_not, BitVec.getLsbD_not]
 have := h i
 revert this
 generalize x.getLsbD i = p; generalize y.getLsbD i = q; generalize decide (i < 64) = r
 revert p q r; decide
theorem sub_in (a b : T) (v w : BitVec 64) : inB (subR a b) (someR a v - someR b w) = true := by
 rw [in_iff]
 intro i hi
 have e1 : (subR a b).m.getLsbD i = (a.m.getLsbD i || b.m.getLsbD i || ((a.lo - b.hi).getLsbD i ^^ (a.hi - b.lo).getLsbD i)) := by
  unfold subR exceptR; simp only
  rw [BitVec.getLsbD_or, BitVec.getLsbD_or, BitVec.getLsbD_xor]
 have e2 : (subR a b).v.getLsbD i = ((a.lo - b.hi).getLsbD i && !(a.m.getLsbD i || b.m.getLsbD i || ((a.lo - b.hi).getLsbD i ^^ (a.hi - b.lo).getLsbD i))) := by
  unfold subR exceptR; simp only
  rw [BitVec.getLsbD_and, BitVec.getLsbD_not, BitVec.getLsbD_or, BitVec.getLsbD_or, BitVec.getLsbD_xor]
  simp [hi]
 have c1 := carry_mono (not_le (le_hi a v)) (lo_le b w) i
 have c2 := carry_mono (not_le (lo_le a v)) (le_hi b w) i
 rw [e1, e2, sub_bit _ _ _ hi, sub_bit _ _ _ hi, sub_bit _ _ _ hi, lo_bit _ _ hi, lo_bit _ _ hi, hi_bit, hi_bit]
 have s1 : (someR a v).getLsbD i = ((a.v.getLsbD i && !a.m.getLsbD i) || (v.getLsbD i && a.m.getLsbD i)) := some_bit a v i hi
 have s2 : (someR b w).getLsbD i = ((b.v.getLsbD i && !b.m.getLsbD i) || (w.getLsbD i && b.m.getLsbD i)) := some_bit b w i hi
 rw [s1, s2]
 revert c1 c2
 generalize BitVec.carry i (~~~a.hi) b.lo false = k1; generalize BitVec.carry i (~~~someR a v) (someR b w) false = k2; generalize BitVec.carry i (~~~a.lo) b.hi false = k3
 generalize a.v.getLsbD i = p; generalize a.m.getLsbD i = q; generalize b.v.getLsbD i = r; generalize b.m.getLsbD i = s; generalize v.getLsbD i = t; generalize w.getLsbD i = u
 cases q <;> cases s <;> cases p <;> cases r <;> cases t <;> cases u <;> revert k1 k2 k3 <;> decide
theorem cut_in (a : T) (v : BitVec 64) : inB (cutR a) (someR a v &&& 4294967295#64) = true := by
 have h := and_in a (ofR 4294967295#64) v 0#64
 rw [show someR (ofR 4294967295#64) 0#64 = 4294967295#64 from rfl] at h
 exact h
theorem wb_same (p q t : Bool) : wb ((p && !q) || (t && q)) false (p && !q) q = false := by revert p q t; decide
theorem lsh_in (a : T) (v n : BitVec 64) : inB (shiftR 96 a n) (aluV 64 96 (someR a v) n) = true := by
 rw [in_iff]
 intro i hi
 show wb ((someR a v <<< (n.toNat % 64)).getLsbD i) false ((a.lo <<< (n.toNat % 64)).getLsbD i) ((a.m <<< (n.toNat % 64)).getLsbD i) = false
 rw [BitVec.getLsbD_shiftLeft, BitVec.getLsbD_shiftLeft, BitVec.getLsbD_shiftLeft]
 by_cases h : i < n.toNat % 64
 ·simp [h, wb]
 ·have hj : i - n.toNat % 64 < 64 := by omega
  unfold someR
  rw [some_bit _ _ _ hj, lo_bit _ _ hj]
  simp only [hi, h, decide_true, decide_false, Bool.not_false, Bool.true_and]
  exact wb_same _ _ _
theorem rsh_in (a : T) (v n : BitVec 64) : inB (shiftR 112 a n) (aluV 64 112 (someR a v) n) = true := by
 rw [in_iff]
 intro i hi
 show wb ((someR a v >>> (n.toNat % 64)).getLsbD i) false ((a.lo >>> (n.toNat % 64)).getLsbD i) ((a.m >>> (n.toNat % 64)).getLsbD i) = false
 rw [BitVec.getLsbD_ushiftRight, BitVec.getLsbD_ushiftRight, BitVec.getLsbD_ushiftRight]
 by_cases hj : n.toNat % 64 + i < 64
 ·unfold someR
  rw [some_bit _ _ _ hj, lo_bit _ _ hj]
  exact wb_same _ _ _
 ·rw [BitVec.getLsbD_of_ge _ _ (by omega), BitVec.getLsbD_of_ge _ _ (by omega), BitVec.getLsbD_of_ge _ _ (by omega)]
  rfl
theorem arsh_in (a : T) (v n : BitVec 64) : inB (shiftR 192 a n) (aluV 64 192 (someR a v) n) = true := by
 rw [in_iff]
 intro i hi
 show wb (((someR a v).sshiftRight (n.toNat % 64)).getLsbD i) false ((a.lo.sshiftRight (n.toNat % 64)).getLsbD i) ((a.m.sshiftRight (n.toNat % 64)).getLsbD i) = false
 rw [BitVec.getLsbD_sshiftRight, BitVec.getLsbD_sshiftRight, BitVec.getLsbD_sshiftRight]
 have h0 : (decide (64 ≤ i)) = false := by simp; omega
 by_cases hj : n.toNat % 64 + i < 64
 ·simp only [h0, hj, if_true, Bool.not_false, Bool.true_and]
  unfold someR
  rw [some_bit _ _ _ hj, lo_bit _ _ hj]
  exact wb_same _ _ _
 ·simp only [h0, hj, if_false, Bool.not_false, Bool.true_and]
  rw [BitVec.msb_eq_getLsbD_last, BitVec.msb_eq_getLsbD_last, BitVec.msb_eq_getLsbD_last]
  unfold someR
  rw [some_bit _ _ _ (by decide), lo_bit _ _ (by decide)]
  exact wb_same _ _ _
end Go.Proofs.YtmcapfbkedfdkaaGreatDoor.Tn
