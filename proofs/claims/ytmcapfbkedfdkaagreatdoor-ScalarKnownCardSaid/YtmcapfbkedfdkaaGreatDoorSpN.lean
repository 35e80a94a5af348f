/-
  Plain facts: products, quotients, bits: what span's calls make is what the document says. No program is looked at here.
-/
import Derived.Test.YtmcapfbkedfdkaaGreatDoorSpM
import Derived.Test.YtmcapfbkedfdkaaGreatDoorSpD
namespace Go.Proofs.YtmcapfbkedfdkaaGreatDoor.Sp
open Go.RowKit Go.Proofs.YtmcapfbkedfdkaaGreatDoor.Num Go.Proofs.YtmcapfbkedfdkaaGreatDoor.Up
theorem low32 (x : BitVec 64) : tn (x &&& 4294967295#64) = tn x % 4294967296 := by
 have h : (x &&& 4294967295#64).toNat = x.toNat % 4294967296 := by
  rw [BitVec.toNat_and]
  exact Nat.and_two_pow_sub_one_eq_mod x.toNat 32
 unfold tn
 rw [h]
 omega
theorem high32 (x : BitVec 64) : tn (x >>> (32#64).toNat) = tn x / 4294967296 := by
 have h := shr64 (tn x) 32 (tn_lo x) (tn_hi64 x)
 rw [b64_tn] at h
 exact h.symm
theorem prod_bd {p q : Int} (p0 : 0 ≤ p) (p1 : p < 4294967296) (q0 : 0 ≤ q) (q1 : q < 4294967296) : 0 ≤ p * q ∧ p * q ≤ 18446744065119617025 :=
 ⟨Int.mul_nonneg p0 q0, Int.mul_le_mul (show p ≤ 4294967295 by omega) (show q ≤ 4294967295 by omega) q0 (by decide)⟩
theorem mul_hi (x y : BitVec 64) : tn (bits_Mul64 x y).1 = tn x * tn y / 18446744073709551616 := by
 have hx0 := tn_lo x; have hx1 := tn_hi64 x; have hy0 := tn_lo y; have hy1 := tn_hi64 y
 unfold bits_Mul64
 simp only
 have ex : tn x = tn x / 4294967296 * 4294967296 + tn x % 4294967296 := by omega
 have ey : tn y = tn y / 4294967296 * 4294967296 + tn y % 4294967296 := by omega
 have xy : tn x * tn y = (tn x / 4294967296) * (tn y / 4294967296) * 18446744073709551616 + ((tn x / 4294967296) * (tn y % 4294967296) + (tn x % 4294967296) * (tn y / 4294967296)) * 4294967296 + (tn x % 4294967296) * (tn y % 4294967296) := by
  conv => lhs; rw [ex, ey]
  generalize tn x / 4294967296 = a; generalize tn x % 4294967296 = b; generalize tn y / 4294967296 = c; generalize tn y % 4294967296 = d
  rw [Int.add_mul, Int.mul_add, Int.mul_add]
  have e1 : a * 4294967296 * (c * 4294967296) = a * c * 18446744073709551616 := by
   rw [Int.mul_assoc, Int.mul_comm 4294967296, Int.mul_assoc, Int.mul_assoc]; rfl
  have e2 : a * 4294967296 * d = a * d * 4294967296 := by rw [Int.mul_right_comm]
  have e3 : b * (c * 4294967296) = b * c * 4294967296 := by rw [Int.mul_assoc]
  rw [e1, e2, e3]
  omega
 have A := prod_bd (show 0 ≤ tn x / 4294967296 by omega) (show tn x / 4294967296 < 4294967296 by omega) (show 0 ≤ tn y / 4294967296 by omega) (show tn y / 4294967296 < 4294967296 by omega)
 have B := prod_bd (show 0 ≤ tn x / 4294967296 by omega) (show tn x / 4294967296 < 4294967296 by omega) (show 0 ≤ tn y % 4294967296 by omega) (show tn y % 4294967296 < 4294967296 by omega)
 have C := prod_bd (show 0 ≤ tn x % 4294967296 by omega) (show tn x % 4294967296 < 4294967296 by omega) (show 0 ≤ tn y / 4294967296 by omega) (show tn y / 4294967296 < 4294967296 by omega)
 have D := prod_bd (show 0 ≤ tn x % 4294967296 by omega) (show tn x % 4294967296 < 4294967296 by omega) (show 0 ≤ tn y % 4294967296 by omega) (show tn y % 4294967296 < 4294967296 by omega)
 rw [xy]
 rw [tn_add, tn_add, tn_mul, high32, high32, high32, high32, tn_add, tn_add, low32, tn_add, high32, tn_mul, tn_mul, tn_mul, high32, high32, low32, low32]
 generalize (tn x / 4294967296) * (tn y / 4294967296) = a at *
 generalize (tn x / 4294967296) * (tn y % 4294967296) = b at *
 generalize (tn x % 4294967296) * (tn y / 4294967296) = c at *
 generalize (tn x % 4294967296) * (tn y % 4294967296) = d at *
 omega
theorem eq0 (x : BitVec 64) : (x == 0#64) = decide (tn x = 0) := by
 rw [← eqUT]; rfl
theorem eqP_zero {b : P} (h : leU b.lo b.hi = true) : eqP b (P.mk 0#64 0#64) = (b.hi == 0#64) := by
 have h0 := tn_lo b.lo; have h1 := tn_lo b.hi
 have k := of_decide_eq_true h
 unfold eqP
 simp only
 rw [eq0, eq0, Bool.eq_iff_iff, Bool.and_eq_true, decide_eq_true_iff, decide_eq_true_iff]
 omega
theorem min_is (x y : BitVec 64) : (bif ltU x y then P.mk 0#64 x else P.mk 0#64 y) = P.mk 0#64 (minU x y) := by
 unfold ltU minU
 by_cases h : tn x < tn y
 ·rw [cond_t (decide_eq_true h), if_neg (by omega)]
 ·rw [cond_f (decide_eq_false h)]
  by_cases k : tn y < tn x
  ·rw [if_pos k]
  ·rw [if_neg k, tn_inj (show tn x = tn y by omega)]
theorem pow_ne (k : Nat) (h : k < 64) : (1#64 <<< k == 0#64) = false := by
 rw [Bool.eq_false_iff]
 intro e
 rw [beq_iff_eq] at e
 have : (1#64 <<< k).getLsbD k = true := by simp [h]
 rw [e] at this
 simp at this
theorem msb_ge (x : BitVec 64) : geU x 9223372036854775808#64 = x.msb := by
 unfold geU tn
 rw [BitVec.msb_eq_decide]
 exact dec_eq (by rw [show (9223372036854775808#64).toNat = 9223372036854775808 from rfl]; omega)
theorem msb_lt (x : BitVec 64) : ltI x 0#64 = x.msb := by
 unfold ltI
 rw [m0, ti_eq, ← msb_ge]
 unfold geU
 rw [show tn 9223372036854775808#64 = 9223372036854775808 from rfl]
 have h0 := tn_lo x; have h1 := tn_hi64 x
 exact dec_eq (by split <;> omega)
theorem turn_is (x y : BitVec 64) : ltI (x ^^^ y) 0#64 = (x.msb != y.msb) := by
 rw [msb_lt, BitVec.msb_xor]
theorem or_add {x y : BitVec 64} (h : x &&& y = 0#64) : x ||| y = x + y := by
 have e := or_and_addB x y
 rw [h, BitVec.add_zero] at e
 exact e
theorem bounds_is (t : P) (h : (t.lo &&& t.hi == 0#64) = true) : P.mk t.lo (t.lo + t.hi) = P.mk t.lo (t.lo ||| t.hi) := by
 rw [or_add (beq_iff_eq.1 h)]
theorem lenV_step (x : BitVec 64) (k : Nat) (h : 2 ^ k ≤ x.toNat) : lenV x = k + lenV (x >>> k) := by
 have hk := (lt_lenV x k).1 h
 have key : ∀ m, m < lenV (x >>> k) ↔ m + k < lenV x := fun m => by
  rw [← lt_lenV, ← lt_lenV, BitVec.toNat_ushiftRight, Nat.shiftRight_eq_div_pow, Nat.le_div_iff_mul_le (Nat.two_pow_pos k), Nat.pow_add]
 have a := key (lenV (x >>> k))
 have b := key (lenV x - k)
 omega
theorem len8_is (x : BitVec 64) (h : x.toNat < 256) : (BitVec.setWidth 64 (len8 (BitVec.setWidth 8 x))).toNat = lenV x := by
 have e : (BitVec.setWidth 8 x).toNat = x.toNat := by rw [BitVec.toNat_setWidth]; omega
 unfold len8 lenV
 by_cases k : x = 0#64
 ·subst k; rfl
 ·have k' : BitVec.setWidth 8 x ≠ 0#8 := fun c => k (BitVec.eq_of_toNat_eq (by rw [← e, c]; rfl))
  rw [if_neg k, if_neg k', e, BitVec.toNat_setWidth, BitVec.toNat_ofNat]
  have h0 : x.toNat ≠ 0 := fun c => k (BitVec.eq_of_toNat_eq c)
  have : Nat.log2 x.toNat < 8 := (Nat.log2_lt h0).2 h
  omega
theorem ge_num {x : BitVec 64} {k : Nat} {c : BitVec 64} (hc : c.toNat = 2 ^ k) (h : geU x c = true) : 2 ^ k ≤ x.toNat := by
 have := of_decide_eq_true h
 unfold tn at this
 omega
theorem lt_num {x : BitVec 64} {k : Nat} {c : BitVec 64} (hc : c.toNat = 2 ^ k) (h : geU x c = false) : x.toNat < 2 ^ k := by
 have := of_decide_eq_false h
 unfold tn at this
 omega
theorem len_is (x : BitVec 64) : (bits_Len64 x).toNat = lenV x := by
 have c32 : (4294967296#64).toNat = 2 ^ 32 := rfl
 have c16 : (65536#64).toNat = 2 ^ 16 := rfl
 have c8 : (256#64).toNat = 2 ^ 8 := rfl
 have step8 : ∀ (y : BitVec 64) (o : BitVec 64), y.toNat < 2 ^ 16 → o.toNat ≤ 64 → ((bif geU y 256#64 then (o + 8#64) + BitVec.setWidth 64 (len8 (BitVec.setWidth 8 (y >>> 8))) else o + BitVec.setWidth 64 (len8 (BitVec.setWidth 8 y)))).toNat = o.toNat + lenV y := by
  intro y o hy ho
  cases h : geU y 256#64
  ·have l := lt_num c8 h
   rw [cond_f rfl, BitVec.toNat_add, len8_is y (by omega)]
   have := lenV_le y
   omega
  ·have g := ge_num c8 h
   have e : (y >>> 8).toNat < 256 := by rw [BitVec.toNat_ushiftRight, Nat.shiftRight_eq_div_pow]; omega
   rw [cond_t rfl, BitVec.toNat_add, BitVec.toNat_add, len8_is _ e, lenV_step y 8 g]
   have := lenV_le (y >>> 8)
   show ((o.toNat + 8) % 2 ^ 64 + _) % 2 ^ 64 = _
   omega
 have step16 : ∀ (y : BitVec 64) (o : BitVec 64), y.toNat < 2 ^ 32 → o.toNat ≤ 32 → ((bif geU y 65536#64 then (bif geU (y >>> 16) 256#64 then ((o + 16#64) + 8#64) + BitVec.setWidth 64 (len8 (BitVec.setWidth 8 ((y >>> 16) >>> 8))) else (o + 16#64) + BitVec.setWidth 64 (len8 (BitVec.setWidth 8 (y >>> 16)))) else (bif geU y 256#64 then (o + 8#64) + BitVec.setWidth 64 (len8 (BitVec.setWidth 8 (y >>> 8))) else o + BitVec.setWidth 64 (len8 (BitVec.setWidth 8 y))))).toNat = o.toNat + lenV y := by
  intro y o hy ho
  cases h : geU y 65536#64
  ·rw [cond_f rfl]
   exact step8 y o (lt_num c16 h) (by omega)
  ·have g := ge_num c16 h
   have e : (y >>> 16).toNat < 2 ^ 16 := by rw [BitVec.toNat_ushiftRight, Nat.shiftRight_eq_div_pow]; omega
   have e2 : (o + 16#64).toNat = o.toNat + 16 := by rw [BitVec.toNat_add]; show (o.toNat + 16) % 2 ^ 64 = _; omega
   rw [cond_t rfl, step8 _ (o + 16#64) e (by omega), e2, lenV_step y 16 g]
   omega
 unfold bits_Len64
 cases h : geU x 4294967296#64
 ·rw [cond_f rfl]
  have := step16 x 0#64 (lt_num c32 h) (by decide)
  rw [show (0#64).toNat = 0 from rfl, Nat.zero_add] at this
  exact this
 ·have g := ge_num c32 h
  have e : (x >>> 32).toNat < 2 ^ 32 := by rw [BitVec.toNat_ushiftRight, Nat.shiftRight_eq_div_pow]; have := x.isLt; omega
  rw [cond_t rfl, lenV_step x 32 g]
  exact step16 (x >>> 32) 32#64 e (by decide)
theorem ones_is (v : BitVec 64) : (1#64 <<< (bits_Len64 v).toNat) - 1#64 = onesV v := by
 rw [len_is]
 apply tn_inj
 rw [tn_onesV, tn_sub]
 have h := onesN_bd _ (lenV_le v)
 have h1 : tn (1#64 <<< lenV v) = 2 ^ lenV v % 18446744073709551616 := by
  unfold tn
  rw [BitVec.toNat_shiftLeft, Nat.shiftLeft_eq]
  rw [show (1#64).toNat = 1 from rfl, Nat.one_mul, Int.natCast_emod, Int.natCast_pow]
  rfl
 rw [h1, show tn 1#64 = 1 from rfl]
 unfold onesN at *
 omega
theorem shl1I (y : BitVec 64) (h : 0 ≤ ti y) : IntKind.u64.wrap (2 ^ (min (ti y).toNat 64)) = tn (1#64 <<< y.toNat) := by
 have e : (ti y).toNat = (tn y).toNat := by
  rw [ti_eq] at *
  have := tn_lo y
  have := tn_hi64 y
  split at h <;> split <;> omega
 rw [e]
 exact shl1U y (tn_lo y)
theorem len_nn (x : BitVec 64) : 0 ≤ ti (bits_Len64 x) := by
 have := len_is x
 have := lenV_le x
 rw [ti_eq]
 unfold tn
 split <;> omega
theorem top_is : 9223372036854775808#64 = BitVec.twoPow 64 63 := by decide
theorem and_top (m : BitVec 64) : m &&& 9223372036854775808#64 = if m.msb then 9223372036854775808#64 else 0#64 := by
 rw [top_is, BitVec.and_twoPow, BitVec.msb_eq_getLsbD_last]
theorem and_dis {v m : BitVec 64} (h : v &&& m = 0#64) (c : BitVec 64) : v &&& (m &&& c) = 0#64 := by
 rw [← BitVec.and_assoc, h, BitVec.zero_and]
theorem split_and (m c : BitVec 64) : m = (m &&& c) + (m &&& ~~~c) := by
 have h : (m &&& c) &&& (m &&& ~~~c) = 0#64 := by
  apply BitVec.eq_of_getLsbD_eq
  intro i hi
  rw [BitVec.getLsbD_and, BitVec.getLsbD_and, BitVec.getLsbD_and, BitVec.getLsbD_not]
  cases m.getLsbD i <;> cases c.getLsbD i <;> simp [hi]
 rw [← or_add h]
 apply BitVec.eq_of_getLsbD_eq
 intro i hi
 rw [BitVec.getLsbD_or, BitVec.getLsbD_and, BitVec.getLsbD_and, BitVec.getLsbD_not]
 cases m.getLsbD i <;> cases c.getLsbD i <;> simp [hi]
theorem ones_bit (v : BitVec 64) (i : Nat) : (onesV v).getLsbD i = decide (i < lenV v) := by
 have h := tn_onesV v
 have hn : (onesV v).toNat = 2 ^ lenV v - 1 := by
  have hp : 0 < 2 ^ lenV v := Nat.two_pow_pos _
  have h2 : (2 : Int) ^ lenV v = ((2 ^ lenV v : Nat) : Int) := by rw [Int.natCast_pow]; rfl
  unfold tn onesN at h
  rw [h2] at h
  omega
 unfold BitVec.getLsbD
 rw [hn, Nat.testBit_two_pow_sub_one]
theorem bits_is (a : P) : bitsV a = P.mk (a.lo &&& ~~~(onesV (a.lo ^^^ a.hi))) (onesV (a.lo ^^^ a.hi)) := by
 unfold bitsV
 refine mk_eq ?_ ?_
 ·apply BitVec.eq_of_getLsbD_eq
  intro i hi
  rw [BitVec.getLsbD_and, BitVec.getLsbD_not, ones_bit, BitVec.getLsbD_shiftLeft, BitVec.getLsbD_ushiftRight]
  by_cases k : i < lenV (a.lo ^^^ a.hi)
  ·simp [k]
  ·simp [k, hi, show lenV (a.lo ^^^ a.hi) + (i - lenV (a.lo ^^^ a.hi)) = i by omega]
 ·have := ones_is (a.lo ^^^ a.hi)
  rw [len_is] at this
  exact this
end Go.Proofs.YtmcapfbkedfdkaaGreatDoor.Sp
