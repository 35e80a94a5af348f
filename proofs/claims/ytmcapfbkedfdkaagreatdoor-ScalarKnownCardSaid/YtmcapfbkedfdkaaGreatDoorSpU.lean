/-
  Plain facts: signed spans, numbers alone, the least ones. No program is looked at here.
-/
import Derived.Test.YtmcapfbkedfdkaaGreatDoorSpS
namespace Go.Proofs.YtmcapfbkedfdkaaGreatDoor.Sp
open Go.RowKit Go.Proofs.YtmcapfbkedfdkaaGreatDoor.Num Go.Proofs.YtmcapfbkedfdkaaGreatDoor.Up
theorem both_in {e : P} {x y : Bool} {v : BitVec 64} (h : x = true → y = true → inZ e v) : inZ (span_both e x y) v := by
 unfold span_both
 cases x
 ·exact sall_in v
 ·cases y
  ·exact sall_in v
  ·exact h rfl rfl
theorem sar_ti (x : BitVec 64) (k : Nat) : ti (BitVec.sshiftRight x k) = ti x / 2 ^ k := by
 have := sar64 (ti x) k
 rw [b64_ti] at this
 exact this.symm
theorem sarsh_in' {a : P} {v : BitVec 64} (n : Nat) (h : inZ a v) : inZ (P.mk (BitVec.sshiftRight a.lo n) (BitVec.sshiftRight a.hi n)) (BitVec.sshiftRight v n) := by
 unfold inZ
 simp only
 rw [sar_ti, sar_ti, sar_ti]
 have p : (0 : Int) < 2 ^ n := Int.pow_pos (by decide)
 exact ⟨Int.ediv_le_ediv p h.1, Int.ediv_le_ediv p h.2⟩
theorem n31 : ti 18446744071562067968#64 = -2147483648 := by decide
theorem p31 : ti 2147483647#64 = 2147483647 := by decide
theorem ext_ti (v : BitVec 64) : ti (BitVec.signExtend 64 (BitVec.setWidth 32 v)) = (ti v + 2147483648) % 4294967296 - 2147483648 := by
 have e : ti (BitVec.signExtend 64 (BitVec.setWidth 32 v)) = (BitVec.setWidth 32 v).toInt := by
  unfold ti
  exact BitVec.toInt_signExtend_of_le (by decide)
 have q : ((BitVec.setWidth 32 v).toNat : Int) = tn v % 4294967296 := by
  unfold tn
  rw [BitVec.toNat_setWidth]
  omega
 have t := ti_eq v
 have v0 := tn_lo v; have v1 := tn_hi64 v
 rw [e, BitVec.toInt_eq_toNat_cond]
 split <;> split at t <;> omega
theorem toSpan_in {a : P} {v : BitVec 64} (h : inZ a v) : inS (span_ToSpan a) v := by
 obtain ⟨h0, h1⟩ := h
 unfold span_ToSpan span_turned_uint64_int64
 rw [turn_is, msb_tn, msb_tn]
 cases e : (decide (9223372036854775808 ≤ tn a.lo) != decide (9223372036854775808 ≤ tn a.hi))
 ·rw [cond_f rfl, cond_t rfl]
  have e : (9223372036854775808 ≤ tn a.lo) ↔ (9223372036854775808 ≤ tn a.hi) := by
   by_cases p : 9223372036854775808 ≤ tn a.lo <;> by_cases q : 9223372036854775808 ≤ tn a.hi <;> simp [p, q] at e ⊢
  show inS a v
  have b0 := tn_lo v; have b1 := tn_hi64 v; have c0 := tn_lo a.lo; have c1 := tn_hi64 a.hi
  unfold inS
  rw [ti_eq, ti_eq] at h0
  rw [ti_eq, ti_eq] at h1
  split at h0 <;> split at h0 <;> split at h1 <;> split at h1 <;> omega
 ·rw [cond_t rfl, cond_f rfl]; exact all_in v
theorem smin_le (x y : BitVec 64) : ti (minI x y) ≤ ti x ∧ ti (minI x y) ≤ ti y := by
 unfold minI; split <;> omega
theorem smax_ge (x y : BitVec 64) : (ti (maxI x y) = ti x ∨ ti (maxI x y) = ti y) ∧ ti x ≤ ti (maxI x y) ∧ ti y ≤ ti (maxI x y) := by
 unfold maxI; split <;> omega
theorem smin_is (x y : BitVec 64) : (ti (minI x y) = ti x ∨ ti (minI x y) = ti y) := by
 unfold minI; split <;> omega
theorem sjoin_in {a b : P} {v : BitVec 64} (h : inZ a v) : inZ (P.mk (minI a.lo b.lo) (maxI a.hi b.hi)) v := by
 have := smin_le a.lo b.lo; have := smax_ge a.hi b.hi
 obtain ⟨h0, h1⟩ := h
 exact ⟨by simp only; omega, by simp only; omega⟩
theorem smeet_in' {a b : P} {v : BitVec 64} (h : inZ a v) (k : inZ b v) : (span_meet_int64 a b).2 = true ∧ inZ (span_meet_int64 a b).1 v := by
 have m := smax_ge a.lo b.lo; have n := smin_le a.hi b.hi; have o := smin_is a.hi b.hi
 obtain ⟨h0, h1⟩ := h
 obtain ⟨k0, k1⟩ := k
 unfold span_meet_int64
 rw [cond_f (show gtI (maxI a.lo b.lo) (minI a.hi b.hi) = false from decide_eq_false (by omega))]
 exact ⟨rfl, by simp only; omega, by simp only; omega⟩
theorem sinside_in {l h : BitVec 64} (hl : ti l ≤ ti h) {k : BitVec 64} (hk : inS (P.mk 0#64 (h - l)) k) : inZ (P.mk l h) (l + k) := by
 obtain ⟨_, k1⟩ := hk
 have k0 := tn_lo k
 simp only at k1
 have a := ti_bd l; have b := ti_bd h
 have tl := ti_eq l; have th := ti_eq h
 have l0 := tn_lo l; have l1 := tn_hi64 l; have h0 := tn_lo h; have h1 := tn_hi64 h
 rw [tn_sub] at k1
 unfold inZ
 simp only
 have tk := ti_eq (l + k)
 rw [tn_add] at tk
 split at tl <;> split at th <;> split at tk <;> omega
theorem tnum_any (v w m : BitVec 64) : ((v &&& ~~~m) ||| (w &&& m)) &&& ~~~m = v &&& ~~~m := by
 apply BitVec.eq_of_getLsbD_eq
 intro i hi
 simp only [BitVec.getLsbD_and, BitVec.getLsbD_or, BitVec.getLsbD_not, hi, decide_true, Bool.true_and]
 cases v.getLsbD i <;> cases w.getLsbD i <;> cases m.getLsbD i <;> rfl
theorem top_tn (x : BitVec 64) : tn (x &&& 9223372036854775808#64) = if x.msb then 9223372036854775808 else 0 := by
 rw [and_top]
 split <;> rfl
theorem split_tn (x c : BitVec 64) : tn x = tn (x &&& c) + tn (x &&& ~~~c) := by
 have d : (x &&& c) &&& (x &&& ~~~c) = 0#64 := by
  apply BitVec.eq_of_getLsbD_eq
  intro i hi
  rw [BitVec.getLsbD_and, BitVec.getLsbD_and, BitVec.getLsbD_and, BitVec.getLsbD_not]
  cases x.getLsbD i <;> cases c.getLsbD i <;> simp [hi]
 have s : x = (x &&& c) ||| (x &&& ~~~c) := (split_and x c).trans (or_add d).symm
 have o := or_and_add (x &&& c).toNat (x &&& ~~~c).toNat
 have z : ((x &&& c) &&& (x &&& ~~~c)).toNat = 0 := by rw [d]; rfl
 rw [BitVec.toNat_and] at z
 have q : x.toNat = ((x &&& c) ||| (x &&& ~~~c)).toNat := congrArg BitVec.toNat s
 rw [BitVec.toNat_or] at q
 unfold tn
 omega
theorem dis_tn {x y : BitVec 64} (h : x &&& y = 0#64) : tn (x ||| y) = tn x + tn y := by
 have o := or_and_add x.toNat y.toNat
 have z : (x &&& y).toNat = 0 := by rw [h]; rfl
 rw [BitVec.toNat_and] at z
 unfold tn
 rw [BitVec.toNat_or]
 omega
theorem sbounds_in {l m v : BitVec 64} (h : v &&& ~~~m = l) : inZ (P.mk (l ||| (m &&& 9223372036854775808#64)) (l ||| (m &&& ~~~9223372036854775808#64))) v := by
 have d : l &&& m = 0#64 := by
  rw [← h]
  apply BitVec.eq_of_getLsbD_eq
  intro i hi
  rw [BitVec.getLsbD_and, BitVec.getLsbD_and, BitVec.getLsbD_not]
  cases v.getLsbD i <;> cases m.getLsbD i <;> simp [hi]
 have sv := split_tn v m
 rw [h] at sv
 have su := split_tn (v &&& m) 9223372036854775808#64
 have sm := split_tn m 9223372036854775808#64
 have uM : tn ((v &&& m) &&& ~~~9223372036854775808#64) ≤ tn (m &&& ~~~9223372036854775808#64) := by
  unfold tn
  have : ((v &&& m) &&& ~~~9223372036854775808#64).toNat ≤ (m &&& ~~~9223372036854775808#64).toNat := by
   rw [BitVec.and_assoc, BitVec.toNat_and]
   exact Nat.and_le_right
  omega
 have e1 := dis_tn (and_dis d 9223372036854775808#64)
 have e2 := dis_tn (and_dis d (~~~9223372036854775808#64))
 have lm := tn_hi64 (l ||| m)
 rw [dis_tn d] at lm
 have tv := ti_eq v
 have t1 := ti_eq (l ||| (m &&& 9223372036854775808#64))
 have t2 := ti_eq (l ||| (m &&& ~~~9223372036854775808#64))
 have c1 := top_tn m
 have c2 := top_tn (v &&& m)
 have um : (v &&& m).msb = (v.msb && m.msb) := BitVec.msb_and
 have M0 := tn_lo (m &&& ~~~9223372036854775808#64)
 have u0 := tn_lo ((v &&& m) &&& ~~~9223372036854775808#64)
 have l0 := tn_lo l
 have Mm : (l ||| (m &&& ~~~9223372036854775808#64)).msb = l.msb := by
  rw [BitVec.msb_or, BitVec.msb_and, show (~~~9223372036854775808#64 : BitVec 64).msb = false by decide, Bool.and_false, Bool.or_false]
 rw [msb_tn, msb_tn, decide_eq_decide] at Mm
 unfold inZ
 simp only
 cases k : m.msb
 ·rw [k] at c1 um
  rw [Bool.and_false] at um
  rw [um] at c2
  simp only [Bool.false_eq_true, if_false] at c1 c2
  split at tv <;> split at t1 <;> split at t2 <;> omega
 ·rw [k] at c1
  simp only [if_true] at c1
  split at c2 <;> split at tv <;> split at t1 <;> split at t2 <;> omega
theorem alone_add (x y : BitVec 64) : span_Add (P.mk x x) (P.mk y y) = P.mk (x + y) (x + y) := by
 unfold span_Add span_add_uint64 span_alike
 simp only
 rw [cond_f (by simp)]
theorem alone_sub (x y : BitVec 64) : span_Sub (P.mk x x) (P.mk y y) = P.mk (x - y) (x - y) := by
 unfold span_Sub span_sub_uint64 span_alike
 simp only
 rw [cond_f (by simp)]
theorem alone_div (x y : BitVec 64) : span_Div (P.mk x x) (P.mk y y) = P.mk (x / y) (x / y) := by
 unfold span_Div
 simp only
 cases h : (y == 0#64)
 ·rw [cond_f rfl, cond_f rfl]
 ·rw [cond_t rfl, beq_iff_eq.1 h, BitVec.udiv_zero]
theorem alone_in {e : P} {z : BitVec 64} (h : e.lo = z) (k : e.hi = z) : e = P.mk z z := P.ext h k
theorem alone_cut (x : BitVec 64) : span_Cut (P.mk x x) = P.mk (x &&& 4294967295#64) (x &&& 4294967295#64) := by
 have e : BitVec.setWidth 64 (BitVec.setWidth 32 x) = x &&& 4294967295#64 := by
  apply tn_inj
  rw [low32]
  unfold tn
  rw [BitVec.toNat_setWidth, BitVec.toNat_setWidth]
  omega
 unfold span_Cut
 simp only
 rw [cond_f (show gtU (x - x) 4294967295#64 = false by rw [BitVec.sub_self]; rfl), cond_f (show gtW (BitVec.setWidth 32 x) (BitVec.setWidth 32 x) = false from decide_eq_false (by omega)), e]
theorem alone_mod0 (x y : BitVec 64) (h : (y == 0#64) = true) : span_Mod (P.mk x x) (P.mk y y) = P.mk x x := by
 unfold span_Mod
 simp only
 rw [cond_t h]
theorem alone_modlt (x y : BitVec 64) (h : ltU x y = true) : span_Mod (P.mk x x) (P.mk y y) = P.mk x x := by
 unfold span_Mod
 simp only
 cases k : (y == 0#64)
 ·rw [cond_f rfl, cond_t h]
 ·rw [cond_t rfl]
theorem alone_mul (x y : BitVec 64) (h : tn x * tn y < 18446744073709551616) : span_Mul (P.mk x x) (P.mk y y) = P.mk (x * y) (x * y) := by
 have m := mul_hi x y
 have p := Int.mul_nonneg (tn_lo x) (tn_lo y)
 rw [Int.ediv_eq_zero_of_lt p h] at m
 have z : (bits_Mul64 x y).1 = 0#64 := tn_inj m
 unfold span_Mul
 simp only
 rw [cond_f (show ((bits_Mul64 x y).1 != 0#64) = false by rw [z]; rfl)]
 rfl
theorem high_small {x : BitVec 64} (h : (x >>> (32#64).toNat == 0#64) = true) : tn x < 4294967296 := by
 rw [eq0, decide_eq_true_iff, high32] at h
 have := tn_lo x
 omega
theorem alone_mul32 (x y : BitVec 64) (h : (x >>> (32#64).toNat == 0#64) = true) (k : (y >>> (32#64).toNat == 0#64) = true) : span_Mul (P.mk x x) (P.mk y y) = P.mk (x * y) (x * y) := by
 have := prod_bd (tn_lo x) (high_small h) (tn_lo y) (high_small k)
 exact alone_mul x y (by omega)
theorem alone_lsh (x : BitVec 64) (n : Nat) (hn : n < 64) (h : ((x <<< n) >>> n == x) = true) : span_Mul (P.mk x x) (P.mk (1#64 <<< n) (1#64 <<< n)) = P.mk (x <<< n) (x <<< n) := by
 have e : x <<< n = x * (1#64 <<< n) := shl_mul x n
 rw [e]
 apply alone_mul
 have h := beq_iff_eq.1 h
 have q : x.toNat < 2 ^ (64 - n) := by
  rw [← h, BitVec.toNat_ushiftRight, BitVec.toNat_shiftLeft, Nat.shiftRight_eq_div_pow]
  rw [Nat.div_lt_iff_lt_mul (Nat.two_pow_pos n), ← Nat.pow_add, show 64 - n + n = 64 by omega]
  exact Nat.mod_lt _ (by decide)
 have p : (1#64 <<< n).toNat = 2 ^ n := by
  rw [BitVec.toNat_shiftLeft, Nat.shiftLeft_eq, show (1#64).toNat = 1 from rfl, Nat.one_mul]
  exact Nat.mod_eq_of_lt (Nat.pow_lt_pow_right (by decide) hn)
 have r : x.toNat * 2 ^ n < 2 ^ 64 := by
  have := Nat.mul_lt_mul_of_pos_right q (Nat.two_pow_pos n)
  rwa [← Nat.pow_add, show 64 - n + n = 64 by omega] at this
 unfold tn
 rw [p]
 have r' : ((x.toNat * 2 ^ n : Nat) : Int) < ((2 ^ 64 : Nat) : Int) := by exact Int.ofNat_lt.2 r
 rw [Int.natCast_mul] at r'
 exact r'
theorem sar_small {x : BitVec 64} (h : (BitVec.sshiftRight x 62 == BitVec.sshiftRight x 63) = true) : -4611686018427387904 ≤ ti x ∧ ti x < 4611686018427387904 := by
 have h := congrArg ti (beq_iff_eq.1 h)
 rw [sar_ti, sar_ti] at h
 have := ti_bd x
 omega
theorem ge0 (y : BitVec 64) : geI y 0#64 = decide (0 ≤ ti y) := by unfold geI; rw [m0]
theorem alone_sadd {x y : BitVec 64} (h : -4611686018427387904 ≤ ti x ∧ ti x < 4611686018427387904) (k : -4611686018427387904 ≤ ti y ∧ ti y < 4611686018427387904) : span_Sadd (P.mk x x) (P.mk y y) = P.mk (x + y) (x + y) := by
 have e : (geI (x + y) x == geI y 0#64) = true := by
  rw [ge0, beq_iff_eq]
  unfold geI
  rw [ti_add]
  exact dec_eq (by omega)
 unfold span_Sadd span_add_int64 span_both
 simp only
 rw [e]
 rfl
theorem alone_ssub {x y : BitVec 64} (h : -4611686018427387904 ≤ ti x ∧ ti x < 4611686018427387904) (k : -4611686018427387904 ≤ ti y ∧ ti y < 4611686018427387904) : span_Ssub (P.mk x x) (P.mk y y) = P.mk (x - y) (x - y) := by
 have e : (leI (x - y) x == geI y 0#64) = true := by
  rw [ge0, beq_iff_eq]
  unfold leI
  rw [ti_sub]
  exact dec_eq (by omega)
 unfold span_Ssub span_sub_int64 span_both
 simp only
 rw [e]
 rfl
theorem eqP_of {x y : P} (h : x = y) : eqP x y = true := by
 subst h
 unfold eqP
 rw [beq_self_eq_true, beq_self_eq_true]; rfl
theorem eqS_of {x y : P} (h : x = y) : eqS x y = true := by
 subst h
 unfold eqS
 rw [beq_self_eq_true, beq_self_eq_true]; rfl
end Go.Proofs.YtmcapfbkedfdkaaGreatDoor.Sp
