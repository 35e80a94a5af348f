/-
  Products of numbers of tnums.
-/
import Derived.Test.YtmcapfbkedfdkaaGreatDoorTnO
import Derived.Test.YtmcapfbkedfdkaaGreatDoorTnZ
namespace Go.Proofs.YtmcapfbkedfdkaaGreatDoor.Tn
open Go.RowKit Go.Proofs.YtmcapfbkedfdkaaGreatDoor.Num
theorem tz_dvd {x : BitVec 64} {k : Nat} (h : ∀ j, j < k → x.getLsbD j = false) : 2 ^ k ∣ x.toNat := by
 rw [Nat.dvd_iff_mod_eq_zero]
 apply Nat.eq_of_testBit_eq
 intro i
 rw [Nat.testBit_mod_two_pow, Nat.zero_testBit]
 by_cases hi : i < k
 ·have := h i hi
  rw [BitVec.getLsbD] at this
  rw [this]; simp
 ·simp [hi]
theorem tz_some {a : T} {k : Nat} (v : BitVec 64) (h : TZ a.hi k) : ∀ j, j < k → (someR a v).getLsbD j = false := by
 intro j hj
 have hz : a.hi.getLsbD j = false := by
  rcases h with ⟨_, _, h0⟩ | ⟨_, h0⟩
  ·exact h0 j hj
  ·rw [h0]; simp
 cases hs : (someR a v).getLsbD j with
 | false => rfl
 | true => rw [le_hi a v j hs] at hz; cases hz
theorem mul_low {x y : BitVec 64} {k l : Nat} (hx : ∀ j, j < k → x.getLsbD j = false) (hy : ∀ j, j < l → y.getLsbD j = false) (i : Nat) (hi : i < k + l) : (x * y).getLsbD i = false := by
 by_cases h64 : i < 64
 ·obtain ⟨p, hp⟩ := tz_dvd hx
  obtain ⟨q, hq⟩ := tz_dvd hy
  rw [BitVec.getLsbD, BitVec.toNat_mul, Nat.testBit_mod_two_pow, hp, hq]
  rw [show 2 ^ k * p * (2 ^ l * q) = 2 ^ (k + l) * (p * q) by rw [Nat.pow_add]; ac_rfl, Nat.testBit_two_pow_mul]
  simp; omega
 ·exact BitVec.getLsbD_of_ge _ _ (by omega)
theorem mul_in (a b : T) (v w : BitVec 64) (k l : Nat) (hk : TZ a.hi k) (hl : TZ b.hi l) : inB (mulR a b k l) (someR a v * someR b w) = true := by
 unfold mulR
 by_cases h : (a.m ||| b.m == 0#64) = true
 ·rw [if_pos h]
  rw [beq_iff_eq] at h
  have ha : a.m = 0#64 := by
   apply BitVec.eq_of_getLsbD_eq
   intro i hi
   have := congrArg (fun z => BitVec.getLsbD z i) h
   simp only [BitVec.getLsbD_or] at this
   revert this
   simp
   generalize a.m.getLsbD i = p; generalize b.m.getLsbD i = q
   intro h1 _; exact h1
  have hb : b.m = 0#64 := by rw [ha] at h; simpa using h
  have e1 : someR a v = a.lo := by unfold someR; rw [ha]; simp
  have e2 : someR b w = b.lo := by unfold someR; rw [hb]; simp
  rw [e1, e2]
  exact of_in _
 ·rw [if_neg h, in_iff]
  intro i hi
  show wb ((someR a v * someR b w).getLsbD i) false ((0#64 : BitVec 64).getLsbD i) ((BitVec.allOnes 64 <<< (k + l)).getLsbD i) = false
  rw [BitVec.getLsbD_shiftLeft]
  by_cases hj : i < k + l
  ·rw [mul_low (tz_some v hk) (tz_some w hl) i hj]
   simp [wb]
  ·have : (BitVec.allOnes 64).getLsbD (i - (k + l)) = true := by rw [BitVec.getLsbD_allOnes]; simp; omega
   rw [this]
   simp [hi, hj, wb]
end Go.Proofs.YtmcapfbkedfdkaaGreatDoor.Tn
