/-
  The contracts of the document's loops: Ones, by, halved, Bits.
-/
import Derived.Test.YtmcapfbkedfdkaaGreatDoorOps
import Derived.LoopTactic
import Derived.IntWalk
import Derived.Deep.DeepCutAuto
namespace Go.Proofs.YtmcapfbkedfdkaaGreatDoor.Sp
open Go.RowKit Go.Proofs.YtmcapfbkedfdkaaGreatDoor.Num Go.Proofs.YtmcapfbkedfdkaaGreatDoor.Up
def lenV (v : BitVec 64) : Nat := if v = 0#64 then 0 else Nat.log2 v.toNat + 1
theorem lenV_le (v : BitVec 64) : lenV v ≤ 64 := by
 unfold lenV
 split
 ·omega
 ·rename_i h
  have h0 : v.toNat ≠ 0 := fun e => h (BitVec.eq_of_toNat_eq e)
  have := (Nat.log2_lt h0).2 v.isLt
  omega
theorem lt_lenV (v : BitVec 64) (k : Nat) : 2 ^ k ≤ v.toNat ↔ k < lenV v := by
 unfold lenV
 split
 ·rename_i h
  subst h
  have : 0 < 2 ^ k := Nat.two_pow_pos k
  simp
 ·rename_i h
  have h0 : v.toNat ≠ 0 := fun e => h (BitVec.eq_of_toNat_eq e)
  rw [← Nat.le_log2 h0]; omega
def onesN (k : Nat) : Int := 2 ^ k - 1
theorem onesN_lt (v : BitVec 64) (k : Nat) : decide (onesN k < tn v) = decide (k < lenV v) := by
 have h := lt_lenV v k
 have h2 : (2 : Int) ^ k = ((2 ^ k : Nat) : Int) := by push_cast; rfl
 rw [decide_eq_decide, ← h]
 unfold onesN tn
 rw [h2]; omega
theorem onesN_bd (k : Nat) (h : k ≤ 64) : 0 ≤ onesN k ∧ onesN k ≤ 18446744073709551615 := by
 have h2 : (2 : Int) ^ k = ((2 ^ k : Nat) : Int) := by push_cast; rfl
 have h3 : 2 ^ k ≤ 2 ^ 64 := Nat.pow_le_pow_right (by decide) h
 have h4 : 0 < 2 ^ k := Nat.two_pow_pos k
 unfold onesN; rw [h2]; omega
theorem onesN_next (k : Nat) (h : k < 64) : IntKind.u64.wrap (IntKind.u64.wrap (2 * onesN k) + 1) = onesN (k + 1) := by
 have h1 := onesN_bd (k + 1) (by omega)
 have h2 : onesN (k + 1) = 2 * onesN k + 1 := by unfold onesN; rw [Int.pow_succ]; omega
 rw [IntKind.wrap_u64, IntKind.wrap_u64]; omega
def onesV (v : BitVec 64) : BitVec 64 := BitVec.ofInt 64 (onesN (lenV v))
theorem tn_onesV (v : BitVec 64) : tn (onesV v) = onesN (lenV v) := by
 have h := onesN_bd _ (lenV_le v)
 exact tn_b64 _ h.1 h.2
theorem ti_bd (x : BitVec 64) : -9223372036854775808 ≤ ti x ∧ ti x ≤ 9223372036854775807 := by
 have h0 := BitVec.le_toInt x
 have h1 := BitVec.toInt_lt (x := x)
 unfold ti
 omega
theorem by_num (x : BitVec 64) : ((ti x).tmod 64 + 64).tmod 64 = ((x % 64#64).toNat : Int) := by
 have h : ((x % 64#64).toNat : Int) = (x.toNat : Int) % 64 := by rw [BitVec.toNat_umod]; rfl
 have t1 : ∀ a : Int, (a.tmod 64 + 64).tmod 64 = a % 64 := by
  intro a
  have t0 : -64 < a.tmod 64 ∧ (a.tmod 64) % 64 = a % 64 := by
   by_cases h0 : 0 ≤ a
   ·rw [Int.tmod_eq_emod_of_nonneg h0]; omega
   ·have e : a.tmod 64 = -((-a) % 64) := by
     rw [show a = -(-a) by omega, Int.neg_tmod, Int.tmod_eq_emod_of_nonneg (by omega)]; omega
    rw [e]; omega
  rw [Int.tmod_eq_emod_of_nonneg (by omega)]; omega
 rw [t1]
 have e : (ti x) % 64 = (x.toNat : Int) % 64 := by
  unfold ti
  rw [BitVec.toInt_eq_toNat_cond]
  split <;> omega
 rw [h]
 omega
theorem sar_next (x : BitVec 64) (k : Nat) : ti (BitVec.sshiftRight x (k + 1)) = ti (BitVec.sshiftRight x k) / 2 := by
 unfold ti
 rw [BitVec.toInt_sshiftRight, BitVec.toInt_sshiftRight, Int.shiftRight_add]
 exact Int.shiftRight_eq_div_pow _ 1
theorem half_odd (v : Int) (h : (v.tmod 2 != 0) = true) (hb : -9223372036854775808 ≤ v ∧ v ≤ 9223372036854775807) : wrap64 ((wrap64 (v - 1)).tdiv 2) = v / 2 := by
 have h1 : v % 2 = 1 := by
  rcases Int.emod_two_eq v with h0 | h0
  ·have : v.tmod 2 = 0 := Int.tmod_eq_zero_of_dvd (Int.dvd_of_emod_eq_zero h0)
   rw [this] at h
   cases h
  ·exact h0
 have h2 : wrap64 (v - 1) = v - 1 := by unfold wrap64; omega
 have h3 : (v - 1).tdiv 2 = v / 2 := by
  rw [Int.tdiv_eq_ediv_of_dvd (by omega)]; omega
 rw [h2, h3]
 unfold wrap64
 omega
theorem half_even (v : Int) (h : (v.tmod 2 != 0) = false) : v.tdiv 2 = v / 2 := by
 have h1 : v.tmod 2 = 0 := by simpa using h
 exact Int.tdiv_eq_ediv_of_dvd (Int.dvd_of_tmod_eq_zero h1)
theorem val_i64 {a b : Int} (h : a = b) : Value.int .i64 a = Value.int .i64 b := by rw [h]
theorem ti_small (y : BitVec 64) (h : y.toNat < 64) : ti y = (y.toNat : Int) := by
 unfold ti
 rw [BitVec.toInt_eq_toNat_cond]
 split <;> omega
theorem mod64_lt (x : BitVec 64) : (x % 64#64).toNat < 64 := by rw [BitVec.toNat_umod]; exact Nat.mod_lt _ (by decide)
theorem lenV_shr (x y : BitVec 64) (k : Nat) : (tn (x >>> k) != tn (y >>> k)) = decide (k < lenV (x ^^^ y)) := by
 have h := lt_lenV (x ^^^ y) k
 rw [neUT, Bool.eq_iff_iff, bne_iff_ne, decide_eq_true_iff, ← h]
 constructor
 ·intro hne
  rcases Nat.lt_or_ge (x ^^^ y).toNat (2 ^ k) with hl | hl
  ·exfalso
   apply hne
   have e : (x ^^^ y) >>> k = 0#64 := by
    apply BitVec.eq_of_toNat_eq
    rw [BitVec.toNat_ushiftRight, Nat.shiftRight_eq_div_pow, Nat.div_eq_of_lt hl]; rfl
   rw [BitVec.ushiftRight_xor_distrib] at e
   exact BitVec.xor_eq_zero_iff.1 e
  ·exact hl
 ·intro hl e
  have e2 : (x ^^^ y) >>> k = 0#64 := by rw [BitVec.ushiftRight_xor_distrib, e, BitVec.xor_self]
  have e3 : ((x ^^^ y) >>> k).toNat = 0 := by rw [e2]; rfl
  rw [BitVec.toNat_ushiftRight, Nat.shiftRight_eq_div_pow] at e3
  have := Nat.div_pos hl (Nat.two_pow_pos k)
  omega
theorem shr_next (x : BitVec 64) (k : Nat) : tn (x >>> k) / 2 = tn (x >>> (k + 1)) := by
 have h := shr64 (tn (x >>> k)) 1 (tn_lo _) (tn_hi64 _)
 rw [b64_tn] at h
 rw [BitVec.shiftRight_add, ← h]
 rfl
theorem shl_next (x : BitVec 64) (k : Nat) : IntKind.u64.wrap (2 * tn (x <<< k)) = tn (x <<< (k + 1)) := by
 have h := mulUT 2#64 (x <<< k)
 rw [show tn 2#64 = 2 from rfl] at h
 rw [h, show 2#64 * (x <<< k) = x <<< (k + 1) by rw [BitVec.shiftLeft_add, BitVec.mul_comm]; exact (BitVec.shiftLeft_eq_mul_twoPow _ 1).symm]
theorem val_agg2 {a b c d : Int} (h : a = c) (k : b = d) : Value.agg #[.int .u64 a, .int .u64 b] = .agg #[.int .u64 c, .int .u64 d] := by rw [h, k]
def bitsV (a : P) : P := ⟨(a.lo >>> lenV (a.lo ^^^ a.hi)) <<< lenV (a.lo ^^^ a.hi), (1#64 <<< lenV (a.lo ^^^ a.hi)) - 1#64⟩
end Go.Proofs.YtmcapfbkedfdkaaGreatDoor.Sp
