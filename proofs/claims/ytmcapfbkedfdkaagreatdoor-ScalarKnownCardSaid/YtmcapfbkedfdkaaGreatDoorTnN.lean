/-
  Sums of numbers of tnums.
-/
import Derived.Test.YtmcapfbkedfdkaaGreatDoorTnE
import Derived.Test.YtmcapfbkedfdkaaGreatDoorTnM
namespace Go.Proofs.YtmcapfbkedfdkaaGreatDoor.Tn
open Go.RowKit Go.Proofs.YtmcapfbkedfdkaaGreatDoor.Num
theorem carry_mono {x y x' y' : BitVec 64} (hx : ∀ i, x.getLsbD i = true → x'.getLsbD i = true) (hy : ∀ i, y.getLsbD i = true → y'.getLsbD i = true) (i : Nat) : BitVec.carry i x y false = true → BitVec.carry i x' y' false = true := by
 induction i with
 | zero => rw [BitVec.carry_zero, BitVec.carry_zero]; exact id
 | succ i ih =>
  rw [BitVec.carry_succ, BitVec.carry_succ]
  have h1 := hx i; have h2 := hy i
  revert h1 h2 ih
  generalize x.getLsbD i = p; generalize x'.getLsbD i = p'; generalize y.getLsbD i = q; generalize y'.getLsbD i = q'
  generalize BitVec.carry i x y false = c; generalize BitVec.carry i x' y' false = c'
  revert p p' q q' c c'; decide
theorem lo_le (a : T) (v : BitVec 64) (i : Nat) : a.lo.getLsbD i = true → (someR a v).getLsbD i = true := by
 intro h
 unfold someR
 rw [BitVec.getLsbD_or, h]; rfl
theorem le_hi (a : T) (v : BitVec 64) (i : Nat) : (someR a v).getLsbD i = true → a.hi.getLsbD i = true := by
 intro h
 by_cases hi : i < 64
 ·unfold someR at h
  rw [some_bit _ _ _ hi] at h
  rw [hi_bit]
  revert h
  generalize a.v.getLsbD i = p; generalize a.m.getLsbD i = q; generalize v.getLsbD i = r
  revert p q r; decide
 ·rw [BitVec.getLsbD_of_ge _ _ (by omega)] at h; cases h
theorem add_in (a b : T) (v w : BitVec 64) : inB (addR a b) (someR a v + someR b w) = true := by
 rw [in_iff]
 intro i hi
 have e1 : (addR a b).m.getLsbD i = (a.m.getLsbD i || b.m.getLsbD i || ((a.lo + b.lo).getLsbD i ^^ (a.hi + b.hi).getLsbD i)) := by
  unfold addR exceptR; simp only
  rw [BitVec.getLsbD_or, BitVec.getLsbD_or, BitVec.getLsbD_xor]
 have e2 : (addR a b).v.getLsbD i = ((a.lo + b.lo).getLsbD i && !(a.m.getLsbD i || b.m.getLsbD i || ((a.lo + b.lo).getLsbD i ^^ (a.hi + b.hi).getLsbD i))) := by
  unfold addR exceptR; simp only
  rw [BitVec.getLsbD_and, BitVec.getLsbD_not, BitVec.getLsbD_or, BitVec.getLsbD_or, BitVec.getLsbD_xor]
  simp [hi]
 have c1 := carry_mono (lo_le a v) (lo_le b w) i
 have c2 := carry_mono (le_hi a v) (le_hi b w) i
 rw [e1, e2, BitVec.getLsbD_add hi, BitVec.getLsbD_add hi, BitVec.getLsbD_add hi, lo_bit _ _ hi, lo_bit _ _ hi, hi_bit, hi_bit]
 have s1 : (someR a v).getLsbD i = ((a.v.getLsbD i && !a.m.getLsbD i) || (v.getLsbD i && a.m.getLsbD i)) := some_bit a v i hi
 have s2 : (someR b w).getLsbD i = ((b.v.getLsbD i && !b.m.getLsbD i) || (w.getLsbD i && b.m.getLsbD i)) := some_bit b w i hi
 rw [s1, s2]
 revert c1 c2
 generalize BitVec.carry i a.lo b.lo false = k1; generalize BitVec.carry i (someR a v) (someR b w) false = k2; generalize BitVec.carry i a.hi b.hi false = k3
 generalize a.v.getLsbD i = p; generalize a.m.getLsbD i = q; generalize b.v.getLsbD i = r; generalize b.m.getLsbD i = s; generalize v.getLsbD i = t; generalize w.getLsbD i = u
 cases q <;> cases s <;> cases p <;> cases r <;> cases t <;> cases u <;> revert k1 k2 k3 <;> decide
theorem some_lo (a : T) : someR a 0#64 = a.lo := by unfold someR; simp
theorem some_hi (a : T) : someR a 18446744073709551615#64 = a.hi := by
 apply BitVec.eq_of_getLsbD_eq
 intro i hi
 have e : (18446744073709551615#64 : BitVec 64).getLsbD i = true := by
  have h : (BitVec.allOnes 64).getLsbD i = true := by rw [BitVec.getLsbD_allOnes]; simp [hi]
  exact h
 unfold someR
 rw [some_bit _ _ _ hi, hi_bit, e]
 generalize a.v.getLsbD i = p; generalize a.m.getLsbD i = q
 revert p q; decide
theorem bits_add (a b : T) : (addR a b).m = (someR a 0#64 + someR b 0#64) ^^^ (someR a 18446744073709551615#64 + someR b 18446744073709551615#64) ||| a.m ||| b.m := by
 rw [some_lo, some_lo, some_hi, some_hi]
 unfold addR exceptR
 simp only
 rw [BitVec.or_comm (a.m ||| b.m), BitVec.or_assoc]
theorem bits_sub (a b : T) : (subR a b).m = (someR a 18446744073709551615#64 - someR b 0#64) ^^^ (someR a 0#64 - someR b 18446744073709551615#64) ||| a.m ||| b.m := by
 rw [some_lo, some_lo, some_hi, some_hi]
 unfold subR exceptR
 simp only
 rw [BitVec.or_comm (a.m ||| b.m), BitVec.or_assoc, BitVec.xor_comm]
theorem clean_zero (v m : BitVec 64) : (v &&& ~~~m) &&& m = 0#64 := by rw [BitVec.and_assoc, BitVec.and_comm (~~~m), BitVec.and_not_self]; simp
theorem beqT {x y : BitVec 64} (h : x = y) : (tn x == tn y) = true := by rw [h]; simp
theorem add_clean (a b : T) : (addR a b).v &&& (addR a b).m = 0#64 := clean_zero _ _
theorem sub_clean (a b : T) : (subR a b).v &&& (subR a b).m = 0#64 := clean_zero _ _
theorem zeroT {x : BitVec 64} (h : x = 0#64) : (tn x == 0) = true := by rw [h]; rfl
end Go.Proofs.YtmcapfbkedfdkaaGreatDoor.Tn
