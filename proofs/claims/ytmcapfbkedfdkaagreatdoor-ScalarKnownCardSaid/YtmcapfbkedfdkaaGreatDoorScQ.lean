/-
  Plain facts: what an operation makes of numbers is in what Alu makes of scalars that have them. No program is looked at here.
-/
import Derived.Test.YtmcapfbkedfdkaaGreatDoorScF
import Derived.Test.YtmcapfbkedfdkaaGreatDoorScM
namespace Go.Proofs.YtmcapfbkedfdkaaGreatDoor.Sp
open Go.RowKit Go.Proofs.YtmcapfbkedfdkaaGreatDoor.Num Go.Proofs.YtmcapfbkedfdkaaGreatDoor.Up Go.Proofs.YtmcapfbkedfdkaaGreatDoor.Tn
theorem sadd_in' {a b : P} {v w : BitVec 64} (h : inZ a v) (k : inZ b w) : inZ (span_Sadd a b) (v + w) := by
 unfold span_Sadd span_add_int64
 simp only
 refine both_in fun e f => ?_
 obtain ⟨h0, h1⟩ := h
 obtain ⟨k0, k1⟩ := k
 have a0 := ti_bd a.lo; have a1 := ti_bd a.hi; have b0 := ti_bd b.lo; have b1 := ti_bd b.hi
 have fit : ∀ x y : BitVec 64, (geI (x + y) x == geI y 0#64) = true → -9223372036854775808 ≤ ti x + ti y ∧ ti x + ti y ≤ 9223372036854775807 := by
  intro x y hf
  have x0 := ti_bd x; have y0 := ti_bd y
  have hf := beq_iff_eq.1 hf
  unfold geI at hf
  rw [decide_eq_decide, m0, ti_add] at hf
  omega
 have f1 := fit _ _ e
 have f2 := fit _ _ f
 refine ⟨?_, ?_⟩
 ·show ti (a.lo + b.lo) ≤ ti (v + w)
  rw [ti_add, ti_add]; omega
 ·show ti (v + w) ≤ ti (a.hi + b.hi)
  rw [ti_add, ti_add]; omega
theorem ssub_in' {a b : P} {v w : BitVec 64} (h : inZ a v) (k : inZ b w) : inZ (span_Ssub a b) (v - w) := by
 unfold span_Ssub span_sub_int64
 simp only
 refine both_in fun e f => ?_
 obtain ⟨h0, h1⟩ := h
 obtain ⟨k0, k1⟩ := k
 have a0 := ti_bd a.lo; have a1 := ti_bd a.hi; have b0 := ti_bd b.lo; have b1 := ti_bd b.hi
 have fit : ∀ x y : BitVec 64, (leI (x - y) x == geI y 0#64) = true → -9223372036854775808 ≤ ti x - ti y ∧ ti x - ti y ≤ 9223372036854775807 := by
  intro x y hf
  have x0 := ti_bd x; have y0 := ti_bd y
  have hf := beq_iff_eq.1 hf
  unfold geI leI at hf
  rw [decide_eq_decide, m0, ti_sub] at hf
  omega
 have f1 := fit _ _ e
 have f2 := fit _ _ f
 refine ⟨?_, ?_⟩
 ·show ti (a.lo - b.hi) ≤ ti (v - w)
  rw [ti_sub, ti_sub]; omega
 ·show ti (v - w) ≤ ti (a.hi - b.lo)
  rw [ti_sub, ti_sub]; omega
theorem clean_except (v m : BitVec 64) : clean (toP (exceptR v m)) := clean_zero v m
theorem clean_between {l h : BitVec 64} (hl : ∀ i, i < 64 → l.getLsbD i = true → h.getLsbD i = true) : clean (toP (betweenR l h)) := by
 refine clean_of fun i hi => ?_
 show (l.getLsbD i && (l ^^^ h).getLsbD i) = false
 have := hl i hi
 rw [BitVec.getLsbD_xor]
 revert this
 generalize l.getLsbD i = p; generalize h.getLsbD i = q
 revert p q; decide
theorem lo_hi (a : T) (i : Nat) (hi : i < 64) : a.lo.getLsbD i = true → a.hi.getLsbD i = true := by
 rw [lo_bit _ _ hi, hi_bit]
 generalize a.v.getLsbD i = p; generalize a.m.getLsbD i = q
 revert p q; decide
theorem clean_and (a b : P) : clean (tnAnd a b) := clean_between fun i hi => by
 have h := lo_hi (ofP a) i hi; have k := lo_hi (ofP b) i hi
 rw [BitVec.getLsbD_and, BitVec.getLsbD_and, Bool.and_eq_true, Bool.and_eq_true]
 exact fun e => ⟨h e.1, k e.2⟩
theorem clean_or (a b : P) : clean (tnOr a b) := clean_between fun i hi => by
 have h := lo_hi (ofP a) i hi; have k := lo_hi (ofP b) i hi
 rw [BitVec.getLsbD_or, BitVec.getLsbD_or, Bool.or_eq_true, Bool.or_eq_true]
 exact fun e => e.imp h k
theorem clean_xor (a b : P) : clean (tnXor a b) := clean_except _ _
theorem clean_add (a b : P) : clean (tnAdd a b) := clean_except _ _
theorem clean_sub (a b : P) : clean (tnSub a b) := clean_except _ _
theorem clean_cut (a : P) : clean (tnCut a) := clean_and a (P.mk 4294967295#64 0#64)
theorem clean_mul (a b : P) : clean (tnMul a b) := by
 unfold tnMul mulR clean
 split
 ·show _ &&& 0#64 = 0#64
  exact BitVec.and_zero
 ·show 0#64 &&& _ = 0#64
  exact BitVec.zero_and
theorem clean_one (v : BitVec 64) : clean (P.mk v 0#64) := BitVec.and_zero
theorem clean_all : clean (P.mk 0#64 18446744073709551615#64) := BitVec.zero_and
theorem lo_m (a : T) : a.lo &&& a.m = 0#64 := clean_zero _ _
theorem clean_lsh (a : P) (n : BitVec 64) : clean (tnLsh a n) := by
 show ((ofP a).lo <<< (n.toNat % 64)) &&& ((ofP a).m <<< (n.toNat % 64)) = 0#64
 rw [← BitVec.shiftLeft_and_distrib, lo_m]; simp
theorem clean_rsh (a : P) (n : BitVec 64) : clean (tnRsh a n) := by
 show ((ofP a).lo >>> (n.toNat % 64)) &&& ((ofP a).m >>> (n.toNat % 64)) = 0#64
 rw [← BitVec.ushiftRight_and_distrib, lo_m]; simp
theorem clean_arsh (a : P) (n : BitVec 64) : clean (tnArsh a n) := by
 show (BitVec.sshiftRight (ofP a).lo (n.toNat % 64)) &&& (BitVec.sshiftRight (ofP a).m (n.toNat % 64)) = 0#64
 rw [← BitVec.sshiftRight_and_distrib, lo_m]; simp
theorem ti_inj {x y : BitVec 64} (h : ti x = ti y) : x = y := BitVec.eq_of_toInt_eq h
theorem is_cases {op : BitVec 64} (h : aluIs (ti op) = true) : op = 0#64 ∨ op = 16#64 ∨ op = 32#64 ∨ op = 48#64 ∨ op = 64#64 ∨ op = 80#64 ∨ op = 96#64 ∨ op = 112#64 ∨ op = 128#64 ∨ op = 144#64 ∨ op = 160#64 ∨ op = 176#64 ∨ op = 192#64 := by
 unfold aluIs at h
 simp only [Bool.or_eq_true, beq_iff_eq] at h
 have e : ∀ k : BitVec 64, ti op = ti k → op = k := fun _ q => ti_inj q
 rcases h with (((((((((((h | h) | h) | h) | h) | h) | h) | h) | h) | h) | h) | h) | h
 ·exact .inl (e 0#64 (h.trans (by decide)))
 ·exact .inr (.inl (e 16#64 (h.trans (by decide))))
 ·exact .inr (.inr (.inl (e 32#64 (h.trans (by decide)))))
 ·exact .inr (.inr (.inr (.inl (e 48#64 (h.trans (by decide))))))
 ·exact .inr (.inr (.inr (.inr (.inl (e 64#64 (h.trans (by decide)))))))
 ·exact .inr (.inr (.inr (.inr (.inr (.inl (e 80#64 (h.trans (by decide))))))))
 ·exact .inr (.inr (.inr (.inr (.inr (.inr (.inl (e 96#64 (h.trans (by decide)))))))))
 ·exact .inr (.inr (.inr (.inr (.inr (.inr (.inr (.inl (e 112#64 (h.trans (by decide))))))))))
 ·exact .inr (.inr (.inr (.inr (.inr (.inr (.inr (.inr (.inl (e 128#64 (h.trans (by decide)))))))))))
 ·exact .inr (.inr (.inr (.inr (.inr (.inr (.inr (.inr (.inr (.inl (e 144#64 (h.trans (by decide))))))))))))
 ·exact .inr (.inr (.inr (.inr (.inr (.inr (.inr (.inr (.inr (.inr (.inl (e 160#64 (h.trans (by decide)))))))))))))
 ·exact .inr (.inr (.inr (.inr (.inr (.inr (.inr (.inr (.inr (.inr (.inr (.inl (e 176#64 (h.trans (by decide))))))))))))))
 ·exact .inr (.inr (.inr (.inr (.inr (.inr (.inr (.inr (.inr (.inr (.inr (.inr (e 192#64 (h.trans (by decide))))))))))))))
theorem one_val {t : P} {v : BitVec 64} (h : tnIn t v = true) (k : (t.hi != 0#64) = false) : v = t.lo := by
 have k' : t.hi = 0#64 := by simpa using k
 unfold tnIn at h
 rw [in_iff] at h
 apply BitVec.eq_of_getLsbD_eq
 intro i hi
 have q : wb (v.getLsbD i) false (t.lo.getLsbD i) (t.hi.getLsbD i) = false := h i hi
 rw [k'] at q
 simp only [BitVec.getLsbD_zero] at q
 revert q
 generalize v.getLsbD i = p; generalize t.lo.getLsbD i = r
 revert p r; decide
theorem single1_val {x : Sc} {v : BitVec 64} (h : scalar_In x v = true) (k : single1 x = true) : v = x.t.lo := by
 refine one_val (in3.1 h).1 ?_
 unfold single1 at k
 revert k
 cases x.t.hi != 0#64 <;> simp
theorem single2_both {x y : Sc} (k : single2 x y = true) : single1 x = true ∧ single1 y = true := by
 unfold single2 at k
 unfold single1
 revert k
 cases x.t.hi != 0#64 <;> cases y.t.hi != 0#64 <;> simp
def sh (op : BitVec 64) : Bool := op == 96#64 || (op == 112#64 || op == 192#64)
def made (op wd v w : BitVec 64) : BitVec 64 := aluV 64 (ti op) v (bif sh op then w % wd else w)
theorem mod_mod (w wd : BitVec 64) (hw : wd = 64#64 ∨ wd = 32#64) : ((w % wd) % 64#64).toNat = (w % wd).toNat % 64 ∧ (w % wd).toNat % 64 = (w % wd).toNat := by
 have h1 : (w % wd).toNat < 64 := by
  rw [BitVec.toNat_umod]
  rcases hw with rfl | rfl
  ·exact Nat.mod_lt _ (by decide)
  ·exact Nat.lt_of_lt_of_le (Nat.mod_lt _ (show 0 < (32#64).toNat by decide)) (by decide)
 exact ⟨by rw [BitVec.toNat_umod]; rfl, Nat.mod_eq_of_lt h1⟩
theorem rsh_le {a : P} {v : BitVec 64} (k : Nat) (h : inS a v) : inS (P.mk 0#64 a.hi) (v >>> k) := by
 refine ⟨tn_lo _, ?_⟩
 rw [shr_tn]
 have h0 := tn_lo v
 have hp : (0 : Int) < 2 ^ k := Int.pow_pos (by decide)
 have : tn v / 2 ^ k ≤ tn v := Int.ediv_le_self _ h0
 exact Int.le_trans this h.2
theorem shift_in (op wd : BitVec 64) (hw : wd = 64#64 ∨ wd = 32#64) (ho : op = 96#64 ∨ op = 112#64 ∨ op = 192#64) {a b : Sc} {v w : BitVec 64} (ha : scalar_In a v = true) (hb : scalar_In b w = true) : clean (scalar_shift op wd a b).t ∧ scalar_In (scalar_shift op wd a b) (aluV 64 (ti op) v (w % wd)) = true := by
 obtain ⟨a1, a2, a3⟩ := in3.1 ha
 unfold scalar_shift
 cases h1 : single1 b
 ·rw [show (!false) = true from rfl, cond_t rfl]
  cases h2 : op == 112#64
  ·rw [cond_f rfl]
   exact ⟨clean_all, all_in3 _⟩
  ·rw [cond_t rfl]
   refine ⟨clean_all, in3.2 ⟨tnAll_in _, ?_, sall_in _⟩⟩
   rw [beq_iff_eq.1 h2]
   exact rsh_le _ a2
 ·rw [show (!true) = false from rfl, cond_f rfl]
  have e := single1_val hb h1
  subst e
  obtain ⟨m1, m2⟩ := mod_mod b.t.lo wd hw
  rcases ho with rfl | rfl | rfl
  ·rw [cond_t (show (96#64 == 96#64) = true from rfl)]
   refine ⟨clean_lsh _ _, in3.2 ⟨tnLsh_in _ a1, ?_, sall_in _⟩⟩
   simp only
   rw [m1]
   exact lsh_in' _ a2
  ·rw [cond_f (show (112#64 == 96#64) = false from rfl), cond_t (show (112#64 == 112#64) = true from rfl)]
   refine ⟨clean_rsh _ _, in3.2 ⟨tnRsh_in _ a1, ?_, sall_in _⟩⟩
   simp only
   rw [m1]
   exact rsh_in' _ a2
  ·rw [cond_f (show (192#64 == 96#64) = false from rfl), cond_f (show (192#64 == 112#64) = false from rfl)]
   refine ⟨clean_arsh _ _, in3.2 ⟨tnArsh_in _ a1, all_in _, ?_⟩⟩
   unfold span_down_int64
   simp only
   rw [m1]
   exact sarsh_in' _ a3
theorem result_in (op wd : BitVec 64) (hw : wd = 64#64 ∨ wd = 32#64) (ho : aluIs (ti op) = true) {a b : Sc} {v w : BitVec 64} (cb : clean b.t) (ha : scalar_In a v = true) (hb : scalar_In b w = true) : clean (scalar_result op wd a b).t ∧ scalar_In (scalar_result op wd a b) (made op wd v w) = true := by
 obtain ⟨a1, a2, a3⟩ := in3.1 ha
 obtain ⟨b1, b2, b3⟩ := in3.1 hb
 rcases is_cases ho with rfl | rfl | rfl | rfl | rfl | rfl | rfl | rfl | rfl | rfl | rfl | rfl | rfl
 ·exact ⟨clean_add _ _, in3.2 ⟨tnAdd_in a1 b1, add_in' a2 b2, sadd_in' a3 b3⟩⟩
 ·exact ⟨clean_sub _ _, in3.2 ⟨tnSub_in a1 b1, sub_in' a2 b2, ssub_in' a3 b3⟩⟩
 ·exact ⟨clean_mul _ _, in3.2 ⟨tnMul_in a1 b1, mul_in' a2 b2, sall_in _⟩⟩
 ·exact ⟨clean_all, in3.2 ⟨tnAll_in _, div_in' a2 b2, sall_in _⟩⟩
 ·exact ⟨clean_or _ _, in3.2 ⟨tnOr_in a1 b1, or_in' a2 b2, sall_in _⟩⟩
 ·exact ⟨clean_and _ _, in3.2 ⟨tnAnd_in a1 b1, and_in' a2 b2, sall_in _⟩⟩
 ·exact shift_in 96#64 wd hw (.inl rfl) ha hb
 ·exact shift_in 112#64 wd hw (.inr (.inl rfl)) ha hb
 ·have e : made 128#64 wd v w = 0#64 - v := by
   show -v = 0#64 - v
   exact (BitVec.zero_sub v).symm
  rw [e]
  exact ⟨clean_sub _ _, in3.2 ⟨tnSub_in (tnOf_in _) a1, sub_in' (one_in _) a2, ssub_in' (a := P.mk 0#64 0#64) ⟨Int.le_refl _, Int.le_refl _⟩ a3⟩⟩
 ·exact ⟨clean_all, in3.2 ⟨tnAll_in _, mod_in' a2 b2, sall_in _⟩⟩
 ·exact ⟨clean_xor _ _, in3.2 ⟨tnXor_in a1 b1, xor_in' a2 b2, sall_in _⟩⟩
 ·exact ⟨cb, hb⟩
 ·exact shift_in 192#64 wd hw (.inr (.inr rfl)) ha hb
theorem low_toNat (x : BitVec 64) : (x &&& 4294967295#64).toNat = x.toNat % 4294967296 := by
 rw [BitVec.toNat_and]
 exact Nat.and_two_pow_sub_one_eq_mod x.toNat 32
theorem low_wide (x : BitVec 64) : x &&& 4294967295#64 = BitVec.setWidth 64 (BitVec.setWidth 32 x) := by
 apply BitVec.eq_of_toNat_eq
 rw [low_toNat, BitVec.toNat_setWidth, BitVec.toNat_setWidth]
 have := x.isLt
 omega
theorem low_cut (x : BitVec 64) : BitVec.setWidth 32 (x &&& 4294967295#64) = BitVec.setWidth 32 x := by
 apply BitVec.eq_of_toNat_eq
 rw [BitVec.toNat_setWidth, BitVec.toNat_setWidth, low_toNat]
 omega
theorem aluR_low (op v w : BitVec 64) : aluR op false (v &&& 4294967295#64) (w &&& 4294967295#64) = aluR op false v w := by
 unfold aluR
 rw [low_cut, low_cut, cond_f rfl, cond_f rfl]
theorem Low_in {a : Sc} {v : BitVec 64} (h : scalar_In a v = true) : clean (scalar_Low a).t ∧ scalar_In (scalar_Low a) (v &&& 4294967295#64) = true := by
 obtain ⟨h1, h2, _⟩ := in3.1 h
 have hx : scalar_In (Sc.mk (tnCut a.t) (span_Cut a.u) (P.mk 9223372036854775808#64 9223372036854775807#64)) (v &&& 4294967295#64) = true := in3.2 ⟨tnCut_in h1, cut_in' h2, sall_in _⟩
 obtain ⟨q1, q2⟩ := norm_in (clean_cut _) hx
 exact ⟨step_norm.neat _ (clean_cut _) q1, q2⟩
theorem set_both {x : Sc} {v : BitVec 64} (hc : clean x.t) (h : scalar_In x v = true) : clean (scalar_Norm x).1.t ∧ scalar_In (scalar_Norm x).1 v = true := by
 obtain ⟨q1, q2⟩ := norm_in hc h
 exact ⟨step_norm.neat _ hc q1, q2⟩
theorem made_low (op : BitVec 64) (ho : aluIs (ti op) = true) (h12 : op ≠ 192#64) (v w : BitVec 64) (hv : v.toNat < 4294967296) (hw : w.toNat < 4294967296) : made op 32#64 v w &&& 4294967295#64 = aluR op false v w := by
 have sv : (BitVec.setWidth 32 v).toNat = v.toNat := by rw [BitVec.toNat_setWidth]; omega
 have sw : (BitVec.setWidth 32 w).toNat = w.toNat := by rw [BitVec.toNat_setWidth]; omega
 have wide : ∀ y : BitVec 32, (BitVec.setWidth 64 y).toNat = y.toNat := fun y => by rw [BitVec.toNat_setWidth]; have := y.isLt; omega
 have wm : (w % 32#64).toNat = w.toNat % 32 := by rw [BitVec.toNat_umod]; rfl
 unfold aluR
 rw [cond_f rfl]
 rcases is_cases ho with rfl | rfl | rfl | rfl | rfl | rfl | rfl | rfl | rfl | rfl | rfl | rfl | rfl
 ·show (v + w) &&& 4294967295#64 = BitVec.setWidth 64 (BitVec.setWidth 32 v + BitVec.setWidth 32 w)
  apply BitVec.eq_of_toNat_eq
  rw [low_toNat, wide, BitVec.toNat_add, BitVec.toNat_add, sv, sw]; omega
 ·show (v - w) &&& 4294967295#64 = BitVec.setWidth 64 (BitVec.setWidth 32 v - BitVec.setWidth 32 w)
  apply BitVec.eq_of_toNat_eq
  rw [low_toNat, wide, BitVec.toNat_sub, BitVec.toNat_sub, sv, sw]; omega
 ·show (v * w) &&& 4294967295#64 = BitVec.setWidth 64 (BitVec.setWidth 32 v * BitVec.setWidth 32 w)
  apply BitVec.eq_of_toNat_eq
  rw [low_toNat, wide, BitVec.toNat_mul, BitVec.toNat_mul, sv, sw]
  generalize v.toNat * w.toNat = m
  omega
 ·show (v / w) &&& 4294967295#64 = BitVec.setWidth 64 (BitVec.setWidth 32 v / BitVec.setWidth 32 w)
  apply BitVec.eq_of_toNat_eq
  rw [low_toNat, wide, BitVec.toNat_udiv, BitVec.toNat_udiv, sv, sw]
  exact Nat.mod_eq_of_lt (Nat.lt_of_le_of_lt (Nat.div_le_self _ _) hv)
 ·show (v ||| w) &&& 4294967295#64 = BitVec.setWidth 64 (BitVec.setWidth 32 v ||| BitVec.setWidth 32 w)
  rw [low_wide, BitVec.setWidth_or]
 ·show (v &&& w) &&& 4294967295#64 = BitVec.setWidth 64 (BitVec.setWidth 32 v &&& BitVec.setWidth 32 w)
  rw [low_wide, BitVec.setWidth_and]
 ·show (v <<< ((w % 32#64).toNat % 64)) &&& 4294967295#64 = BitVec.setWidth 64 (BitVec.setWidth 32 v <<< ((BitVec.setWidth 32 w).toNat % 32))
  rw [sw, wm, Nat.mod_eq_of_lt (show w.toNat % 32 < 64 by omega)]
  apply BitVec.eq_of_toNat_eq
  rw [low_toNat, wide, BitVec.toNat_shiftLeft, BitVec.toNat_shiftLeft, sv]
  generalize v.toNat <<< (w.toNat % 32) = m
  omega
 ·show (v >>> ((w % 32#64).toNat % 64)) &&& 4294967295#64 = BitVec.setWidth 64 (BitVec.setWidth 32 v >>> ((BitVec.setWidth 32 w).toNat % 32))
  rw [sw, wm, Nat.mod_eq_of_lt (show w.toNat % 32 < 64 by omega)]
  apply BitVec.eq_of_toNat_eq
  rw [low_toNat, wide, BitVec.toNat_ushiftRight, BitVec.toNat_ushiftRight, sv]
  exact Nat.mod_eq_of_lt (Nat.lt_of_le_of_lt (by rw [Nat.shiftRight_eq_div_pow]; exact Nat.div_le_self _ _) hv)
 ·show (-v) &&& 4294967295#64 = BitVec.setWidth 64 (-(BitVec.setWidth 32 v))
  apply BitVec.eq_of_toNat_eq
  rw [low_toNat, wide, BitVec.toNat_neg, BitVec.toNat_neg, sv]; omega
 ·show (v % w) &&& 4294967295#64 = BitVec.setWidth 64 (BitVec.setWidth 32 v % BitVec.setWidth 32 w)
  apply BitVec.eq_of_toNat_eq
  rw [low_toNat, wide, BitVec.toNat_umod, BitVec.toNat_umod, sv, sw]
  exact Nat.mod_eq_of_lt (Nat.lt_of_le_of_lt (Nat.mod_le _ _) hv)
 ·show (v ^^^ w) &&& 4294967295#64 = BitVec.setWidth 64 (BitVec.setWidth 32 v ^^^ BitVec.setWidth 32 w)
  rw [low_wide, BitVec.setWidth_xor]
 ·show w &&& 4294967295#64 = BitVec.setWidth 64 (BitVec.setWidth 32 w)
  exact low_wide w
 ·exact absurd rfl h12
theorem arsh_low (v w : BitVec 64) (hv : v.toNat < 2147483648) : aluR 192#64 false v w = aluR 112#64 false v w := by
 show BitVec.setWidth 64 (BitVec.sshiftRight (BitVec.setWidth 32 v) ((BitVec.setWidth 32 w).toNat % 32)) = BitVec.setWidth 64 ((BitVec.setWidth 32 v) >>> ((BitVec.setWidth 32 w).toNat % 32))
 rw [BitVec.sshiftRight_eq_of_msb_false]
 rw [BitVec.msb_eq_false_iff_two_mul_lt, BitVec.toNat_setWidth]
 omega
theorem aluR_small (op v w : BitVec 64) : (aluR op false v w) &&& 4294967295#64 = aluR op false v w := by
 unfold aluR
 rw [cond_f rfl]
 generalize aluV 32 _ _ _ = y
 apply BitVec.eq_of_toNat_eq
 rw [low_toNat, BitVec.toNat_setWidth]
 have := y.isLt
 omega
theorem aluV_neg (n : Nat) (x y : BitVec n) : aluV n (ti 128#64) x y = -x := by
 unfold aluV
 rw [show ti 128#64 = 128 from by decide]
 simp
theorem aluV_mov (n : Nat) (x y : BitVec n) : aluV n (ti 176#64) x y = y := by
 unfold aluV
 rw [show ti 176#64 = 176 from by decide]
 simp
theorem neg_same (wide : Bool) (x y z : BitVec 64) : aluR 128#64 wide x y = aluR 128#64 wide x z := by
 unfold aluR
 rw [aluV_neg, aluV_neg, aluV_neg, aluV_neg]
theorem mov_same (wide : Bool) (x y z : BitVec 64) : aluR 176#64 wide x y = aluR 176#64 wide z y := by
 unfold aluR
 rw [aluV_mov, aluV_mov, aluV_mov, aluV_mov]
theorem only_in {op : BitVec 64} {wide : Bool} {a b : Sc} {v w : BitVec 64} (ha : scalar_In a v = true) (hb : scalar_In b w = true) (h : (scalar_only op wide a b).2 = true) : (scalar_only op wide a b).1 = aluR op wide v w := by
 unfold scalar_only at *
 cases h1 : op == 176#64
 ·rw [h1, cond_f rfl] at h
  rw [cond_f rfl]
  cases h2 : op == 128#64
  ·rw [h2, cond_f rfl] at h
   rw [cond_f rfl]
   cases h3 : single2 a b
   ·rw [h3] at h; cases h
   ·obtain ⟨k1, k2⟩ := single2_both h3
    rw [show (!true) = false from rfl, cond_f rfl, single1_val ha k1, single1_val hb k2]
  ·rw [h2, cond_t rfl] at h
   rw [cond_t rfl]
   cases h3 : single1 a
   ·rw [h3] at h; cases h
   ·rw [show (!true) = false from rfl, cond_f rfl, beq_iff_eq.1 h2, single1_val ha h3]
    exact neg_same _ _ _ _
 ·rw [h1, cond_t rfl] at h
  rw [cond_t rfl]
  cases h3 : single1 b
  ·rw [h3] at h; cases h
  ·rw [show (!true) = false from rfl, cond_f rfl, beq_iff_eq.1 h1, single1_val hb h3]
   exact mov_same _ _ _ _
theorem of_in2 (v : BitVec 64) : scalar_In (Sc.mk (P.mk v 0#64) (P.mk v v) (P.mk v v)) v = true := in3.2 ⟨tnOf_in v, one_in v, Int.le_refl _, Int.le_refl _⟩
theorem low_lt (v : BitVec 64) : (v &&& 4294967295#64).toNat < 4294967296 := by rw [low_toNat]; exact Nat.mod_lt _ (by decide)
theorem narrow_in {op : BitVec 64} (ho : aluIs (ti op) = true) {a b : Sc} {v w : BitVec 64} (cb : clean b.t) (hv : v.toNat < 4294967296) (hw : w.toNat < 4294967296) (ha : scalar_In a v = true) (hb : scalar_In b w = true) : scalar_In (scalar_narrow op a b) (aluR op false v w) = true := by
 unfold scalar_narrow
 cases h1 : (scalar_only op false a b).2
 ·rw [cond_f rfl]
  cases h2 : op == 192#64
  ·rw [cond_f rfl]
   have ne : op ≠ 192#64 := by simpa using h2
   obtain ⟨c1, r1⟩ := result_in op 32#64 (.inr rfl) ho cb ha hb
   have q := (Low_in (set_both c1 r1).2).2
   rw [made_low op ho ne v w hv hw] at q
   exact q
  ·rw [cond_t rfl]
   have e := beq_iff_eq.1 h2
   subst e
   cases h3 : geU a.u.hi 2147483648#64
   ·rw [cond_f rfl]
    obtain ⟨c1, r1⟩ := result_in 112#64 32#64 (.inr rfl) rfl cb ha hb
    have q := (Low_in (set_both c1 r1).2).2
    have hs : v.toNat < 2147483648 := by
     have k := of_decide_eq_false h3
     have k2 := (in3.1 ha).2.1.2
     unfold tn at k k2
     rw [show (2147483648#64).toNat = 2147483648 from rfl] at k
     omega
    rw [made_low 112#64 rfl (by decide) v w hv hw, ← arsh_low v w hs] at q
    exact q
   ·rw [cond_t rfl]
    have q := (Low_in (all_in3 (aluR 192#64 false v w))).2
    rw [aluR_small] at q
    exact q
 ·rw [cond_t rfl, only_in ha hb h1]
  exact of_in2 _
theorem alu_in (op : BitVec 64) (wide : Bool) (ho : aluIs (ti op) = true) {a b : Sc} {v w : BitVec 64} (cb : clean b.t) (ha : scalar_In a v = true) (hb : scalar_In b w = true) : scalar_In (scalar_Alu op wide a b) (aluR op wide v w) = true := by
 unfold scalar_Alu
 cases h1 : (scalar_only op wide a b).2
 ·rw [cond_f rfl]
  cases wide
  ·rw [cond_f rfl]
   obtain ⟨_, a2⟩ := Low_in ha
   obtain ⟨b1, b2⟩ := Low_in hb
   have q := narrow_in ho b1 (low_lt v) (low_lt w) a2 b2
   rw [aluR_low] at q
   exact q
  ·rw [cond_t rfl]
   obtain ⟨c1, r1⟩ := result_in op 64#64 (.inl rfl) ho cb ha hb
   have q := (set_both c1 r1).2
   have e : made op 64#64 v w = aluR op true v w := by
    unfold aluR made
    rw [cond_t rfl]
    rcases is_cases ho with rfl | rfl | rfl | rfl | rfl | rfl | rfl | rfl | rfl | rfl | rfl | rfl | rfl <;> first | rfl | skip
    ·show v <<< ((w % 64#64).toNat % 64) = v <<< (w.toNat % 64)
     rw [BitVec.toNat_umod, show (64#64).toNat = 64 from rfl, Nat.mod_mod]
    ·show v >>> ((w % 64#64).toNat % 64) = v >>> (w.toNat % 64)
     rw [BitVec.toNat_umod, show (64#64).toNat = 64 from rfl, Nat.mod_mod]
    ·show BitVec.sshiftRight v ((w % 64#64).toNat % 64) = BitVec.sshiftRight v (w.toNat % 64)
     rw [BitVec.toNat_umod, show (64#64).toNat = 64 from rfl, Nat.mod_mod]
   rw [e] at q
   exact q
 ·rw [cond_t rfl, only_in ha hb h1]
  exact of_in2 _
theorem alu_no {op : BitVec 64} (ho : aluIs (ti op) = false) {a b : Sc} (v : BitVec 64) : scalar_In (scalar_Alu op true a b) v = true := by
 have ne : ∀ k : BitVec 64, aluIs (ti k) = true → (op == k) = false := fun k hk => by
  rw [Bool.eq_false_iff]
  intro e
  rw [beq_iff_eq.1 e, hk] at ho
  cases ho
 have h1 : (scalar_only op true a b).2 = false := by
  unfold scalar_only
  rw [ho, cond_f (ne 176#64 rfl), cond_f (ne 128#64 rfl)]
  cases single2 a b <;> rfl
 unfold scalar_Alu
 rw [cond_f h1, cond_t rfl]
 have e : scalar_result op 64#64 a b = scalar_All := by
  unfold scalar_result
  rw [cond_f (ne 0#64 rfl), cond_f (ne 16#64 rfl), cond_f (ne 128#64 rfl), cond_f (ne 32#64 rfl), cond_f (ne 80#64 rfl), cond_f (ne 64#64 rfl), cond_f (ne 160#64 rfl), cond_f (ne 48#64 rfl), cond_f (ne 144#64 rfl), cond_f (ne 176#64 rfl), cond_f (ne 96#64 rfl), cond_f (ne 112#64 rfl), cond_f (ne 192#64 rfl)]
 rw [e]
 exact set_in clean_all (all_in3 v)
end Go.Proofs.YtmcapfbkedfdkaaGreatDoor.Sp
