/-
  Plain facts: joins, bounds and bits are the least ones. No program is looked at here.
-/
import Derived.Test.YtoojdndfjfmemaaSpU
namespace Go.Proofs.Ytoojdndfjfmemaa.Sp
open Go.RowKit Go.Proofs.Ytoojdndfjfmemaa.Num Go.Proofs.Ytoojdndfjfmemaa.Up
theorem bne_of {n : Nat} {a b : BitVec n} (h : a = b) : (a != b) = false := by subst h; simp
theorem clear_and (x m : BitVec 64) : (x &&& ~~~m) &&& m = 0#64 := by
  apply BitVec.eq_of_getLsbD_eq
  intro i hi
  rw [BitVec.getLsbD_and, BitVec.getLsbD_and, BitVec.getLsbD_not]
  cases x.getLsbD i <;> cases m.getLsbD i <;> simp [hi]
theorem end_0 (v m : BitVec 64) : (v &&& ~~~m) &&& ~~~m = v &&& ~~~m := by rw [BitVec.and_assoc, BitVec.and_self]
theorem end_or (v m c : BitVec 64) : ((v &&& ~~~m) ||| (m &&& c)) &&& ~~~m = v &&& ~~~m := by
  apply BitVec.eq_of_getLsbD_eq
  intro i hi
  simp only [BitVec.getLsbD_and, BitVec.getLsbD_or, BitVec.getLsbD_not, hi, decide_true, Bool.true_and]
  cases v.getLsbD i <;> cases c.getLsbD i <;> cases m.getLsbD i <;> rfl
theorem end_1 (v m : BitVec 64) : ((v &&& ~~~m) ||| m) &&& ~~~m = v &&& ~~~m := by
  have h := end_or v m m
  rwa [BitVec.and_self] at h
theorem end_2 (v m : BitVec 64) : ((span_Sbounds (P.mk (v &&& ~~~m) m)).lo) &&& ~~~m = v &&& ~~~m := end_or v m _
theorem end_3 (v m : BitVec 64) : ((span_Sbounds (P.mk (v &&& ~~~m) m)).hi) &&& ~~~m = v &&& ~~~m := end_or v m _
theorem min_one (x y : BitVec 64) : (bif minU x y == x then true else minU x y == y) = true := by
  unfold minU
  split
  · rw [beq_self_eq_true y]; cases (y == x) <;> rfl
  · rw [beq_self_eq_true x]; rfl
theorem max_one (x y : BitVec 64) : (bif maxU x y == x then true else maxU x y == y) = true := by
  unfold maxU
  split
  · rw [beq_self_eq_true y]; cases (y == x) <;> rfl
  · rw [beq_self_eq_true x]; rfl
theorem within_of {a b : P} (h : tn b.lo ≤ tn a.lo ∧ tn a.hi ≤ tn b.hi) : span_within_uint64 a b = true := by
  unfold span_within_uint64
  rw [cond_t (show leU b.lo a.lo = true from decide_eq_true h.1)]
  exact decide_eq_true h.2
theorem join_l (a b : P) : tn (P.mk (minU a.lo b.lo) (maxU a.hi b.hi)).lo ≤ tn a.lo ∧ tn a.hi ≤ tn (P.mk (minU a.lo b.lo) (maxU a.hi b.hi)).hi := by
  have := min_le a.lo b.lo; have := max_ge a.hi b.hi
  simp only; omega
theorem join_r (a b : P) : tn (P.mk (minU a.lo b.lo) (maxU a.hi b.hi)).lo ≤ tn b.lo ∧ tn b.hi ≤ tn (P.mk (minU a.lo b.lo) (maxU a.hi b.hi)).hi := by
  have := min_le a.lo b.lo; have := max_ge a.hi b.hi
  simp only; omega
theorem ones_nat (v : BitVec 64) : (onesV v).toNat = 2 ^ lenV v - 1 := by
  have h := tn_onesV v
  have hp : 0 < 2 ^ lenV v := Nat.two_pow_pos _
  have h2 : (2 : Int) ^ lenV v = ((2 ^ lenV v : Nat) : Int) := by rw [Int.natCast_pow]; rfl
  unfold tn onesN at h
  rw [h2] at h
  omega
theorem ones_next (v : BitVec 64) : onesV v + 1#64 = 1#64 <<< lenV v := by
  have h := ones_is v
  rw [len_is] at h
  rw [← h, BitVec.sub_add_cancel]
theorem mask_next (v : BitVec 64) : onesV v &&& (onesV v + 1#64) = 0#64 := by
  rw [ones_next]
  apply BitVec.eq_of_getLsbD_eq
  intro i hi
  rw [BitVec.getLsbD_and, ones_bit, BitVec.getLsbD_shiftLeft]
  by_cases k : i < lenV v
  · simp [k]
  · simp [k]
theorem mask_zero {a : P} (_ : tn a.lo ≤ tn a.hi) (h : (onesV (a.lo ^^^ a.hi) != 0#64) = false) : a.lo = a.hi := by
  have h : onesV (a.lo ^^^ a.hi) = 0#64 := by simpa using h
  have n := ones_nat (a.lo ^^^ a.hi)
  rw [h] at n
  have z : lenV (a.lo ^^^ a.hi) = 0 := by
    rcases Nat.eq_zero_or_pos (lenV (a.lo ^^^ a.hi)) with e | e
    · exact e
    · have := Nat.pow_le_pow_right (show 0 < 2 by decide) e
      rw [show (0#64).toNat = 0 from rfl] at n
      omega
  unfold lenV at z
  split at z
  · rename_i e
    exact BitVec.xor_eq_zero_iff.1 e
  · omega
theorem mid_in {a : P} (hl : tn a.lo ≤ tn a.hi) (h : (onesV (a.lo ^^^ a.hi) != 0#64) = true) :
    inS a ((a.lo &&& ~~~(onesV (a.lo ^^^ a.hi))) ||| (onesV (a.lo ^^^ a.hi) - (onesV (a.lo ^^^ a.hi) >>> (1#64).toNat))) ∧
    inS a (((a.lo &&& ~~~(onesV (a.lo ^^^ a.hi))) ||| (onesV (a.lo ^^^ a.hi) - (onesV (a.lo ^^^ a.hi) >>> (1#64).toNat))) - 1#64) := by
  have n := ones_nat (a.lo ^^^ a.hi)
  have le := lenV_le (a.lo ^^^ a.hi)
  have ob := ones_bit (a.lo ^^^ a.hi)
  have s0 := lenV_shr a.lo a.hi
  generalize lenV (a.lo ^^^ a.hi) = N at *
  generalize onesV (a.lo ^^^ a.hi) = M at *
  have hN : N ≠ 0 := by
    intro e
    subst e
    have : M = 0#64 := BitVec.eq_of_toNat_eq (by rw [n]; rfl)
    rw [this] at h
    simp at h
  obtain ⟨k, rfl⟩ : ∃ k, N = k + 1 := ⟨N - 1, by omega⟩
  have hp : 2 ^ (k + 1) = 2 * 2 ^ k := by rw [Nat.pow_succ]; omega
  have p0 : 0 < 2 ^ k := Nat.two_pow_pos k
  have p1 : 2 ^ (k + 1) ≤ 2 ^ 64 := Nat.pow_le_pow_right (by decide) le
  have e1 := s0 (k + 1)
  have e2 := s0 k
  rw [neUT, show decide (k + 1 < k + 1) = false by simp] at e1
  rw [neUT, show decide (k < k + 1) = true by simp] at e2
  have e1 : a.lo >>> (k + 1) = a.hi >>> (k + 1) := by simpa using e1
  have e2 : a.lo >>> k ≠ a.hi >>> k := by simpa using e2
  have q1 : a.lo.toNat / 2 ^ (k + 1) = a.hi.toNat / 2 ^ (k + 1) := by
    have := congrArg BitVec.toNat e1
    rw [BitVec.toNat_ushiftRight, BitVec.toNat_ushiftRight, Nat.shiftRight_eq_div_pow, Nat.shiftRight_eq_div_pow] at this
    exact this
  have q2 : a.lo.toNat / 2 ^ k ≠ a.hi.toNat / 2 ^ k := by
    intro e
    apply e2
    apply BitVec.eq_of_toNat_eq
    rw [BitVec.toNat_ushiftRight, BitVec.toNat_ushiftRight, Nat.shiftRight_eq_div_pow, Nat.shiftRight_eq_div_pow]
    exact e
  have hl' : a.lo.toNat ≤ a.hi.toNat := by unfold tn at hl; omega
  have hd : a.lo.toNat / 2 ^ k ≤ a.hi.toNat / 2 ^ k := Nat.div_le_div_right hl'
  have d1 : a.lo.toNat / 2 ^ (k + 1) = a.lo.toNat / 2 ^ k / 2 := by rw [Nat.pow_succ, Nat.div_div_eq_div_mul]
  have d2 : a.hi.toNat / 2 ^ (k + 1) = a.hi.toNat / 2 ^ k / 2 := by rw [Nat.pow_succ, Nat.div_div_eq_div_mul]
  have f1 : a.lo.toNat / 2 ^ k = 2 * (a.lo.toNat / 2 ^ (k + 1)) := by omega
  have f2 : a.hi.toNat / 2 ^ k = 2 * (a.lo.toNat / 2 ^ (k + 1)) + 1 := by omega
  have g1 := Nat.div_add_mod a.lo.toNat (2 ^ k)
  have g1' := Nat.mod_lt a.lo.toNat p0
  have g2 := Nat.div_add_mod a.hi.toNat (2 ^ k)
  have hv : (a.lo &&& ~~~M).toNat = a.lo.toNat / 2 ^ (k + 1) * 2 ^ (k + 1) := by
    have e : a.lo &&& ~~~M = (a.lo >>> (k + 1)) <<< (k + 1) := by
      apply BitVec.eq_of_getLsbD_eq
      intro i hi
      rw [BitVec.getLsbD_and, BitVec.getLsbD_not, ob, BitVec.getLsbD_shiftLeft, BitVec.getLsbD_ushiftRight]
      by_cases c : i < k + 1
      · simp [c]
      · simp [c, hi, show k + 1 + (i - (k + 1)) = i by omega]
    rw [e, BitVec.toNat_shiftLeft, BitVec.toNat_ushiftRight, Nat.shiftRight_eq_div_pow, Nat.shiftLeft_eq]
    apply Nat.mod_eq_of_lt
    have := Nat.div_mul_le_self a.lo.toNat (2 ^ (k + 1))
    have := a.lo.isLt
    omega
  have ht : (M - (M >>> (1#64).toNat)).toNat = 2 ^ k := by
    have hs : (M >>> (1#64).toNat).toNat = 2 ^ k - 1 := by
      rw [BitVec.toNat_ushiftRight, Nat.shiftRight_eq_div_pow, n, show (1#64).toNat = 1 from rfl]
      omega
    rw [BitVec.toNat_sub, hs, n]
    have := M.isLt
    omega
  have hm : ((a.lo &&& ~~~M) ||| (M - (M >>> (1#64).toNat))).toNat = a.lo.toNat / 2 ^ (k + 1) * 2 ^ (k + 1) + 2 ^ k := by
    rw [BitVec.toNat_or, hv, ht, Nat.mul_comm, Nat.two_pow_add_eq_or_of_lt (show 2 ^ k < 2 ^ (k + 1) by omega)]
  generalize (a.lo &&& ~~~M) ||| (M - (M >>> (1#64).toNat)) = mid at *
  rw [f1] at g1
  rw [f2] at g2
  have r : a.lo.toNat / 2 ^ (k + 1) * 2 ^ (k + 1) = 2 ^ k * (2 * (a.lo.toNat / 2 ^ (k + 1))) := by
    generalize a.lo.toNat / 2 ^ (k + 1) = q
    rw [hp, Nat.mul_comm q, Nat.mul_assoc, Nat.mul_left_comm]
  have r2 : 2 ^ k * (2 * (a.lo.toNat / 2 ^ (k + 1)) + 1) = 2 ^ k * (2 * (a.lo.toNat / 2 ^ (k + 1))) + 2 ^ k := by rw [Nat.mul_add, Nat.mul_one]
  rw [r2] at g2
  rw [r] at hm
  generalize 2 ^ k * (2 * (a.lo.toNat / 2 ^ (k + 1))) = z at *
  have s := tn_sub mid 1#64
  rw [show tn 1#64 = 1 from rfl] at s
  unfold inS
  rw [s]
  unfold tn at *
  omega
end Go.Proofs.Ytoojdndfjfmemaa.Sp
