/-
  Plain facts: what numbers of two spans make is in the span that the operation makes. No program is looked at here.
-/
import Derived.Test.YtmcapfbkedfdkaaGreatDoorSpN
namespace Go.Proofs.YtmcapfbkedfdkaaGreatDoor.Sp
open Go.RowKit Go.Proofs.YtmcapfbkedfdkaaGreatDoor.Num Go.Proofs.YtmcapfbkedfdkaaGreatDoor.Up
def inS (a : P) (v : BitVec 64) : Prop := tn a.lo ≤ tn v ∧ tn v ≤ tn a.hi
theorem in_of {a : P} {v : BitVec 64} (h : inS a v) : span_within_uint64 (P.mk v v) a = true := by
 unfold span_within_uint64
 rw [cond_t (show leU a.lo v = true from decide_eq_true h.1)]
 exact decide_eq_true h.2
theorem of_in {a : P} {v : BitVec 64} (h : span_within_uint64 (P.mk v v) a = true) : inS a v := by
 unfold span_within_uint64 at h
 cases k : leU a.lo v
 ·rw [cond_f k] at h; cases h
 ·rw [cond_t k] at h; exact ⟨of_decide_eq_true k, of_decide_eq_true h⟩
theorem all_in (v : BitVec 64) : inS (P.mk 0#64 18446744073709551615#64) v := ⟨tn_lo v, tn_hi64 v⟩
theorem alike_in {e : P} {x y : Bool} {v : BitVec 64} (h : x = y → inS e v) : inS (span_alike e x y) v := by
 unfold span_alike
 cases k : (x != y)
 ·rw [cond_f rfl]; exact h (by cases x <;> cases y <;> simp at k <;> rfl)
 ·rw [cond_t rfl]; exact all_in v
theorem add_in' {a b : P} {v w : BitVec 64} (h : inS a v) (k : inS b w) : inS (span_Add a b) (v + w) := by
 unfold span_Add span_add_uint64
 simp only
 rw [fit_add, fit_add]
 refine alike_in fun e => ?_
 obtain ⟨h0, h1⟩ := h
 obtain ⟨k0, k1⟩ := k
 have a0 := tn_lo a.lo; have a1 := tn_hi64 a.hi; have b0 := tn_lo b.lo; have b1 := tn_hi64 b.hi
 unfold leU at e
 rw [decide_eq_decide, tn_sub, tn_sub, show tn 18446744073709551615#64 = 18446744073709551615 from rfl] at e
 unfold inS
 simp only
 rw [tn_add, tn_add, tn_add]
 omega
theorem sub_in' {a b : P} {v w : BitVec 64} (h : inS a v) (k : inS b w) : inS (span_Sub a b) (v - w) := by
 unfold span_Sub span_sub_uint64
 simp only
 rw [fit_sub, fit_sub]
 refine alike_in fun e => ?_
 obtain ⟨h0, h1⟩ := h
 obtain ⟨k0, k1⟩ := k
 have a0 := tn_lo a.lo; have a1 := tn_hi64 a.hi; have b0 := tn_lo b.lo; have b1 := tn_hi64 b.hi
 unfold geU at e
 rw [decide_eq_decide] at e
 unfold inS
 simp only
 rw [tn_sub, tn_sub, tn_sub]
 omega
theorem mul_in' {a b : P} {v w : BitVec 64} (h : inS a v) (k : inS b w) : inS (span_Mul a b) (v * w) := by
 unfold span_Mul
 obtain ⟨h0, h1⟩ := h
 obtain ⟨k0, k1⟩ := k
 have a0 := tn_lo a.lo; have b0 := tn_lo b.lo; have v0 := tn_lo v; have w0 := tn_lo w
 cases e : ((bits_Mul64 a.hi b.hi).1 != 0#64)
 ·rw [cond_f rfl]
  have m := mul_hi a.hi b.hi
  have z : (bits_Mul64 a.hi b.hi).1 = 0#64 := by simpa using e
  rw [z, show tn 0#64 = 0 from rfl] at m
  have p0 : 0 ≤ tn a.lo * tn b.lo := Int.mul_nonneg a0 b0
  have p1 : tn a.lo * tn b.lo ≤ tn v * tn w := Int.mul_le_mul h0 k0 b0 v0
  have p2 : tn v * tn w ≤ tn a.hi * tn b.hi := Int.mul_le_mul h1 k1 w0 (by omega)
  have p3 : (bits_Mul64 a.hi b.hi).2 = a.hi * b.hi := rfl
  unfold inS
  simp only
  rw [p3, tn_mul, tn_mul, tn_mul]
  generalize tn a.lo * tn b.lo = x at *
  generalize tn v * tn w = y at *
  generalize tn a.hi * tn b.hi = z at *
  omega
 ·rw [cond_t rfl]; exact all_in _
theorem quo_tn (x y : BitVec 64) : tn (x / y) = tn x / tn y := by
 have := div64 (tn x) (tn y) (tn_lo x) (tn_hi64 x) (tn_lo y) (tn_hi64 y)
 rw [b64_tn, b64_tn] at this
 exact this.symm
theorem rem_tn (x y : BitVec 64) : tn (x % y) = tn x % tn y := by
 have := mod64 (tn x) (tn y) (tn_lo x) (tn_hi64 x) (tn_lo y) (tn_hi64 y)
 rw [b64_tn, b64_tn] at this
 exact this.symm
theorem div_in' {a b : P} {v w : BitVec 64} (h : inS a v) (k : inS b w) : inS (span_Div a b) (v / w) := by
 obtain ⟨h0, h1⟩ := h
 obtain ⟨k0, k1⟩ := k
 have a0 := tn_lo a.lo; have b0 := tn_lo b.lo; have v0 := tn_lo v; have w0 := tn_lo w
 unfold span_Div
 cases e : (b.hi == 0#64)
 ·rw [cond_f rfl]
  rw [eq0, decide_eq_false_iff_not] at e
  cases f : (b.lo == 0#64)
  ·rw [cond_f rfl]
   rw [eq0, decide_eq_false_iff_not] at f
   unfold inS
   simp only
   rw [quo_tn, quo_tn, quo_tn]
   have q : ∀ (x y c d : Int), 0 ≤ x → x ≤ y → 0 < d → d ≤ c → x / c ≤ y / d := fun x y c d hx hxy hd hdc => by
    rw [Int.le_ediv_iff_mul_le hd]
    have p1 : x / c * d ≤ x / c * c := Int.mul_le_mul_of_nonneg_left hdc (Int.ediv_nonneg hx (by omega))
    have p2 := Int.ediv_mul_le x (show c ≠ 0 by omega)
    omega
   exact ⟨q _ _ _ _ a0 h0 (by omega) k1, q _ _ _ _ v0 h1 (by omega) k0⟩
  ·rw [cond_t rfl]
   unfold inS
   simp only
   rw [quo_tn]
   have p : tn v / tn w ≤ tn v := by
    by_cases z : tn w = 0
    ·rw [z, Int.ediv_zero]; exact v0
    ·exact Int.ediv_le_self _ v0
   exact ⟨Int.ediv_nonneg v0 w0, by omega⟩
 ·rw [cond_t rfl]
  rw [eq0, decide_eq_true_iff] at e
  unfold inS
  simp only
  rw [quo_tn, show tn w = 0 by omega, Int.ediv_zero]
  exact ⟨Int.le_refl _, Int.le_refl _⟩
theorem mod_in' {a b : P} {v w : BitVec 64} (h : inS a v) (k : inS b w) : inS (span_Mod a b) (v % w) := by
 obtain ⟨h0, h1⟩ := h
 obtain ⟨k0, k1⟩ := k
 have a0 := tn_lo a.lo; have b0 := tn_lo b.lo; have v0 := tn_lo v; have w0 := tn_lo w
 have z0 : tn 0#64 = 0 := rfl
 have small : ∀ c, tn w = 0 ∨ tn v < tn w → (tn v % tn w = c ↔ tn v = c) := fun c hc => by
  rcases hc with hc | hc
  ·rw [hc, Int.emod_zero]
  ·rw [Int.emod_eq_of_lt v0 hc]
 have le : tn v % tn w ≤ tn v := by
  by_cases z : tn w = 0
  ·rw [z, Int.emod_zero]; exact Int.le_refl _
  ·by_cases z2 : tn v < tn w
   ·rw [Int.emod_eq_of_lt v0 z2]; exact Int.le_refl _
   ·have := Int.emod_lt_of_pos (tn v) (show 0 < tn w by omega); omega
 have ge : 0 ≤ tn v % tn w := by
  by_cases z : tn w = 0
  ·rw [z, Int.emod_zero]; exact v0
  ·exact Int.emod_nonneg _ z
 unfold span_Mod
 cases e : (b.hi == 0#64)
 ·rw [cond_f rfl]
  rw [eq0, decide_eq_false_iff_not] at e
  cases f : ltU a.hi b.lo
  ·rw [cond_f rfl]
   cases g : (b.lo == 0#64)
   ·rw [cond_f rfl]
    rw [eq0, decide_eq_false_iff_not] at g
    have lt := Int.emod_lt_of_pos (tn v) (show 0 < tn w by omega)
    unfold inS
    simp only
    rw [rem_tn, z0]
    refine ⟨ge, ?_⟩
    unfold minU
    have s1 : tn (b.hi - 1#64) = tn b.hi - 1 := by
     have := tn_lo b.hi; have := tn_hi64 b.hi
     rw [tn_sub, show tn 1#64 = 1 from rfl]; omega
    split
    ·rw [s1]; omega
    ·omega
   ·rw [cond_t rfl]
    unfold inS
    simp only
    rw [rem_tn, z0]
    omega
  ·rw [cond_t rfl]
   have f := of_decide_eq_true f
   unfold inS
   rw [rem_tn, Int.emod_eq_of_lt v0 (by omega)]
   exact ⟨h0, h1⟩
 ·rw [cond_t rfl]
  rw [eq0, decide_eq_true_iff] at e
  unfold inS
  rw [rem_tn, show tn w = 0 by omega, Int.emod_zero]
  exact ⟨h0, h1⟩
theorem min_le (x y : BitVec 64) : (tn (minU x y) = tn x ∨ tn (minU x y) = tn y) ∧ tn (minU x y) ≤ tn x ∧ tn (minU x y) ≤ tn y := by
 unfold minU; split <;> omega
theorem max_ge (x y : BitVec 64) : (tn (maxU x y) = tn x ∨ tn (maxU x y) = tn y) ∧ tn x ≤ tn (maxU x y) ∧ tn y ≤ tn (maxU x y) := by
 unfold maxU; split <;> omega
theorem and_in' {a b : P} {v w : BitVec 64} (h : inS a v) (k : inS b w) : inS (P.mk 0#64 (minU a.hi b.hi)) (v &&& w) := by
 obtain ⟨h0, h1⟩ := h
 obtain ⟨k0, k1⟩ := k
 have m := min_le a.hi b.hi
 have p1 : (v &&& w).toNat ≤ v.toNat := by rw [BitVec.toNat_and]; exact Nat.and_le_left
 have p2 : (v &&& w).toNat ≤ w.toNat := by rw [BitVec.toNat_and]; exact Nat.and_le_right
 refine ⟨tn_lo _, ?_⟩
 unfold tn at *
 simp only
 omega
theorem under_ones (m v w : BitVec 64) (h : tn v ≤ tn m) (k : tn w ≤ tn m) (u : Nat) (hu : ∀ n, v.toNat < 2 ^ n → w.toNat < 2 ^ n → u < 2 ^ n) : (u : Int) ≤ tn (onesV m) := by
 rw [tn_onesV]
 have lt : m.toNat < 2 ^ lenV m := by
  have := lt_lenV m (lenV m)
  omega
 have h2 : (2 : Int) ^ lenV m = ((2 ^ lenV m : Nat) : Int) := by rw [Int.natCast_pow]; rfl
 have := hu (lenV m) (by unfold tn at h; omega) (by unfold tn at k; omega)
 unfold onesN
 rw [h2]
 omega
theorem or_in' {a b : P} {v w : BitVec 64} (h : inS a v) (k : inS b w) : inS (P.mk (maxU a.lo b.lo) (onesV (maxU a.hi b.hi))) (v ||| w) := by
 obtain ⟨h0, h1⟩ := h
 obtain ⟨k0, k1⟩ := k
 have m := max_ge a.hi b.hi
 have l := max_ge a.lo b.lo
 have p1 : v.toNat ≤ (v ||| w).toNat := by rw [BitVec.toNat_or]; exact Nat.left_le_or
 have p2 : w.toNat ≤ (v ||| w).toNat := by rw [BitVec.toNat_or]; exact Nat.right_le_or
 refine ⟨?_, ?_⟩
 ·simp only
  unfold tn at *
  omega
 ·exact under_ones _ v w (by omega) (by omega) _ (fun n q1 q2 => by rw [BitVec.toNat_or]; exact Nat.or_lt_two_pow q1 q2)
theorem xor_in' {a b : P} {v w : BitVec 64} (h : inS a v) (k : inS b w) : inS (P.mk 0#64 (onesV (maxU a.hi b.hi))) (v ^^^ w) := by
 obtain ⟨h0, h1⟩ := h
 obtain ⟨k0, k1⟩ := k
 have m := max_ge a.hi b.hi
 exact ⟨tn_lo _, under_ones _ v w (by omega) (by omega) _ (fun n q1 q2 => by rw [BitVec.toNat_xor]; exact Nat.xor_lt_two_pow q1 q2)⟩
theorem one_in (v : BitVec 64) : inS (P.mk v v) v := ⟨Int.le_refl _, Int.le_refl _⟩
theorem lsh_in' {a : P} {v : BitVec 64} (n : Nat) (h : inS a v) : inS (span_Mul a (P.mk (1#64 <<< n) (1#64 <<< n))) (v <<< n) := by
 have e : v <<< n = v * (1#64 <<< n) := shl_mul v n
 rw [e]
 exact mul_in' h (one_in _)
theorem shr_tn (x : BitVec 64) (k : Nat) : tn (x >>> k) = tn x / 2 ^ k := by
 have h := shr64 (tn x) k (tn_lo x) (tn_hi64 x)
 rw [b64_tn] at h
 exact h.symm
theorem rsh_in' {a : P} {v : BitVec 64} (n : Nat) (h : inS a v) : inS (P.mk (a.lo >>> n) (a.hi >>> n)) (v >>> n) := by
 unfold inS
 simp only
 rw [shr_tn, shr_tn, shr_tn]
 have p : (0 : Int) < 2 ^ n := Int.pow_pos (by decide)
 exact ⟨Int.ediv_le_ediv p h.1, Int.ediv_le_ediv p h.2⟩
theorem cut_in' {a : P} {v : BitVec 64} (h : inS a v) : inS (span_Cut a) (v &&& 4294967295#64) := by
 obtain ⟨h0, h1⟩ := h
 have a0 := tn_lo a.lo; have a1 := tn_hi64 a.hi
 have z0 : tn 0#64 = 0 := rfl
 have z1 : tn 4294967295#64 = 4294967295 := rfl
 have q : ∀ x : BitVec 64, tn (BitVec.setWidth 32 x) = tn x % 4294967296 := fun x => by
  unfold tn
  rw [BitVec.toNat_setWidth]
  omega
 have q2 : ∀ x : BitVec 64, tn (BitVec.setWidth 64 (BitVec.setWidth 32 x)) = tn x % 4294967296 := fun x => by
  unfold tn
  rw [BitVec.toNat_setWidth, BitVec.toNat_setWidth]
  omega
 have all : inS (P.mk 0#64 4294967295#64) (v &&& 4294967295#64) := by
  unfold inS
  simp only
  rw [low32, z0, z1]
  omega
 unfold span_Cut
 cases e : gtU (a.hi - a.lo) 4294967295#64
 ·rw [cond_f rfl]
  cases f : gtW (BitVec.setWidth 32 a.lo) (BitVec.setWidth 32 a.hi)
  ·rw [cond_f rfl]
   have e := of_decide_eq_false e
   have f := of_decide_eq_false f
   rw [tn_sub, z1] at e
   rw [q, q] at f
   unfold inS
   simp only
   rw [low32, q2, q2]
   omega
  ·rw [cond_t rfl]; exact all
 ·rw [cond_t rfl]; exact all
theorem from_le (x y : BitVec 64) : tn (minU x y) ≤ tn (maxU x y) := by
 have := min_le x y; have := max_ge x y; omega
theorem inside_in {a : P} (h : tn a.lo ≤ tn a.hi) (v : BitVec 64) : inS a (bif (((a.hi - a.lo) + 1#64) == 0#64) then v else (a.lo + (v % ((a.hi - a.lo) + 1#64)))) := by
 have a0 := tn_lo a.lo; have a1 := tn_hi64 a.hi; have v0 := tn_lo v; have v1 := tn_hi64 v
 have one : tn 1#64 = 1 := rfl
 cases e : (((a.hi - a.lo) + 1#64) == 0#64)
 ·rw [cond_f rfl]
  rw [eq0, decide_eq_false_iff_not, tn_add, tn_sub, one] at e
  unfold inS
  rw [tn_add, rem_tn, tn_add, tn_sub, one]
  have m0 := Int.emod_nonneg (tn v) (show ((tn a.hi - tn a.lo) % 18446744073709551616 + 1) % 18446744073709551616 ≠ 0 from e)
  have m1 := Int.emod_lt_of_pos (tn v) (show 0 < ((tn a.hi - tn a.lo) % 18446744073709551616 + 1) % 18446744073709551616 by omega)
  generalize tn v % (((tn a.hi - tn a.lo) % 18446744073709551616 + 1) % 18446744073709551616) = m at *
  omega
 ·rw [cond_t rfl]
  rw [eq0, decide_eq_true_iff, tn_add, tn_sub, one] at e
  unfold inS
  omega
theorem join_in1 {a b : P} {v : BitVec 64} (h : inS a v) : inS (P.mk (minU a.lo b.lo) (maxU a.hi b.hi)) v := by
 have := min_le a.lo b.lo; have := max_ge a.hi b.hi
 obtain ⟨h0, h1⟩ := h
 exact ⟨by simp only; omega, by simp only; omega⟩
theorem join_in2 {a b : P} {v : BitVec 64} (h : inS b v) : inS (P.mk (minU a.lo b.lo) (maxU a.hi b.hi)) v := by
 have := min_le a.lo b.lo; have := max_ge a.hi b.hi
 obtain ⟨h0, h1⟩ := h
 exact ⟨by simp only; omega, by simp only; omega⟩
theorem meet_flag {a b : P} (h : tn a.lo ≤ tn a.hi) (k : tn b.lo ≤ tn b.hi) : (span_meet_uint64 a b).2 = (leU a.lo b.hi && leU b.lo a.hi) := by
 have m := max_ge a.lo b.lo; have n := min_le a.hi b.hi
 unfold span_meet_uint64
 cases e : gtU (maxU a.lo b.lo) (minU a.hi b.hi)
 ·have e := of_decide_eq_false e
  rw [cond_f rfl, show leU a.lo b.hi = true from decide_eq_true (by omega), show leU b.lo a.hi = true from decide_eq_true (by omega)]; rfl
 ·have e := of_decide_eq_true e
  rw [cond_t rfl]
  by_cases p : tn a.lo ≤ tn b.hi
  ·rw [show leU b.lo a.hi = false from decide_eq_false (by omega), Bool.and_false]
  ·rw [show leU a.lo b.hi = false from decide_eq_false p, Bool.false_and]
theorem meet_in' {a b : P} {v : BitVec 64} (h : inS a v) (k : inS b v) : (span_meet_uint64 a b).2 = true ∧ inS (span_meet_uint64 a b).1 v := by
 have m := max_ge a.lo b.lo; have n := min_le a.hi b.hi
 obtain ⟨h0, h1⟩ := h
 obtain ⟨k0, k1⟩ := k
 unfold span_meet_uint64
 rw [cond_f (show gtU (maxU a.lo b.lo) (minU a.hi b.hi) = false from decide_eq_false (by omega))]
 exact ⟨rfl, by simp only; omega, by simp only; omega⟩
theorem bits_in' {a : P} {v : BitVec 64} (h : inS a v) : v &&& ~~~(onesV (a.lo ^^^ a.hi)) = a.lo &&& ~~~(onesV (a.lo ^^^ a.hi)) := by
 have s0 := lenV_shr a.lo a.hi (lenV (a.lo ^^^ a.hi))
 rw [neUT, show decide (lenV (a.lo ^^^ a.hi) < lenV (a.lo ^^^ a.hi)) = false by simp] at s0
 have s1 : a.lo >>> lenV (a.lo ^^^ a.hi) = a.hi >>> lenV (a.lo ^^^ a.hi) := by simpa using s0
 have r := rsh_in' (lenV (a.lo ^^^ a.hi)) h
 unfold inS at r
 simp only at r
 rw [← s1] at r
 have s2 : v >>> lenV (a.lo ^^^ a.hi) = a.lo >>> lenV (a.lo ^^^ a.hi) := tn_inj (by omega)
 apply BitVec.eq_of_getLsbD_eq
 intro i hi
 rw [BitVec.getLsbD_and, BitVec.getLsbD_and, BitVec.getLsbD_not, ones_bit]
 by_cases k : i < lenV (a.lo ^^^ a.hi)
 ·simp [k]
 ·have b := congrArg (fun z => BitVec.getLsbD z (i - lenV (a.lo ^^^ a.hi))) s2
  simp only [BitVec.getLsbD_ushiftRight] at b
  rw [show lenV (a.lo ^^^ a.hi) + (i - lenV (a.lo ^^^ a.hi)) = i by omega] at b
  rw [b]
theorem tnum_in {l m v : BitVec 64} (h : v &&& ~~~m = l) : inS (P.mk l (l ||| m)) v := by
 have s := split_and v m
 have d : l &&& m = 0#64 := by
  rw [← h]
  apply BitVec.eq_of_getLsbD_eq
  intro i hi
  rw [BitVec.getLsbD_and, BitVec.getLsbD_and, BitVec.getLsbD_not]
  cases v.getLsbD i <;> cases m.getLsbD i <;> simp [hi]
 have e : tn l + tn m < 18446744073709551616 := by
  have o := or_and_add l.toNat m.toNat
  have z : (l &&& m).toNat = 0 := by rw [d]; rfl
  rw [BitVec.toNat_and] at z
  have q := (l ||| m).isLt
  rw [BitVec.toNat_or] at q
  unfold tn
  omega
 have p : (v &&& m).toNat ≤ m.toNat := by rw [BitVec.toNat_and]; exact Nat.and_le_right
 have sv : tn v = (tn (v &&& m) + tn l) % 18446744073709551616 := by
  conv => lhs; rw [s]
  rw [tn_add, h]
 unfold inS
 simp only
 rw [or_add d, tn_add]
 have := tn_lo (v &&& m)
 have := tn_lo l
 have p' : tn (v &&& m) ≤ tn m := by unfold tn; omega
 omega
def inZ (a : P) (v : BitVec 64) : Prop := ti a.lo ≤ ti v ∧ ti v ≤ ti a.hi
theorem sin_of {a : P} {v : BitVec 64} (h : inZ a v) : span_within_int64 (P.mk v v) a = true := by
 unfold span_within_int64
 rw [cond_t (show leI a.lo v = true from decide_eq_true h.1)]
 exact decide_eq_true h.2
theorem of_sin {a : P} {v : BitVec 64} (h : span_within_int64 (P.mk v v) a = true) : inZ a v := by
 unfold span_within_int64 at h
 cases k : leI a.lo v
 ·rw [cond_f k] at h; cases h
 ·rw [cond_t k] at h; exact ⟨of_decide_eq_true k, of_decide_eq_true h⟩
theorem sall_in (v : BitVec 64) : inZ (P.mk 9223372036854775808#64 9223372036854775807#64) v := by
 have := ti_bd v
 unfold inZ
 simp only
 rw [m7, m8']
 exact this
theorem msb_tn (x : BitVec 64) : x.msb = decide (9223372036854775808 ≤ tn x) := by
 rw [← msb_ge]; rfl
theorem toSigned_in {a : P} {v : BitVec 64} (h : inS a v) : inZ (span_ToSigned a) v := by
 obtain ⟨h0, h1⟩ := h
 unfold span_ToSigned span_turned_int64_uint64
 rw [turn_is, msb_tn, msb_tn]
 cases e : (decide (9223372036854775808 ≤ tn a.lo) != decide (9223372036854775808 ≤ tn a.hi))
 ·rw [cond_f rfl, cond_t rfl]
  have e : (9223372036854775808 ≤ tn a.lo) ↔ (9223372036854775808 ≤ tn a.hi) := by
   by_cases p : 9223372036854775808 ≤ tn a.lo <;> by_cases q : 9223372036854775808 ≤ tn a.hi <;> simp [p, q] at e ⊢
  show inZ a v
  unfold inZ
  rw [ti_eq, ti_eq, ti_eq]
  split <;> split <;> split <;> omega
 ·rw [cond_t rfl, cond_f rfl]; exact sall_in v
end Go.Proofs.YtmcapfbkedfdkaaGreatDoor.Sp
