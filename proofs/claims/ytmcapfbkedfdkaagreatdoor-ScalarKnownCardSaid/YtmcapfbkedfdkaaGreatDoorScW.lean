/-
  Plain facts for ScalarKnown: scalars between two numbers, which outcomes of a comparison there are. No program is looked at here.
-/
import Derived.Test.YtmcapfbkedfdkaaGreatDoorScU
import Derived.Test.YtmcapfbkedfdkaaGreatDoorScR
namespace Go.Proofs.YtmcapfbkedfdkaaGreatDoor.Sp
open Go.RowKit Go.Proofs.YtmcapfbkedfdkaaGreatDoor.Num Go.Proofs.YtmcapfbkedfdkaaGreatDoor.Up Go.Proofs.YtmcapfbkedfdkaaGreatDoor.Tn
theorem btw_raw {a b v : BitVec 64} (h : tn a ≤ tn v) (k : tn v ≤ tn b) : scalar_In (Sc.mk scalar_All.t (P.mk a b) scalar_All.s) v = true := in3.2 ⟨tnAll_in v, ⟨h, k⟩, sall_in v⟩
theorem btw_in {a b v : BitVec 64} (h : tn a ≤ tn v) (k : tn v ≤ tn b) : clean (btw a b).t ∧ scalar_In (btw a b) v = true := set_both clean_all (btw_raw h k)
theorem btw_sub {a b : BitVec 64} (h : tn a ≤ tn b) : tn a ≤ tn (btw a b).u.lo ∧ tn (btw a b).u.hi ≤ tn b := by
 have q := step_norm.sub _ (norm_in clean_all (btw_raw (Int.le_refl _) h)).1
 exact (within3.1 q).2.1
theorem btw_lo {a b : BitVec 64} (h : tn a ≤ tn b) : tn (btw a b).u.lo = tn a := by
 have h1 := (btw_sub h).1
 have h2 := (in3.1 (btw_in (Int.le_refl _) h).2).2.1.1
 omega
theorem btw_hi {a b : BitVec 64} (h : tn a ≤ tn b) : tn (btw a b).u.hi = tn b := by
 have h1 := (btw_sub h).2
 have h2 := (in3.1 (btw_in h (Int.le_refl _)).2).2.1.2
 omega
theorem btw_single5 : ∀ a : Fin 5, single1 (btw (BitVec.ofNat 64 a.val) (BitVec.ofNat 64 a.val)) = true := by decide +kernel
theorem btw_single {a : BitVec 64} (h : tn a ≤ 4) : single1 (btw a a) = true := by
 have h' : a.toNat < 5 := by unfold tn at h; omega
 have q := btw_single5 ⟨a.toNat, h'⟩
 simpa using q
def numAt (a : BitVec 64) : Nat → BitVec 64
 | 0 => a
 | k + 1 => a + BitVec.ofNat 64 (k + 1)
theorem numAt_is (a : BitVec 64) (k : Nat) : numAt a k = a + BitVec.ofNat 64 k := by
 cases k
 ·simp [numAt]
 ·rfl
def cellJ (op : BitVec 64) (wide : Bool) (a c : BitVec 64) (t : Bool) (i k : Nat) : Bool := bif (jmpIs (ti op)) then ((jmpR op wide (numAt a i) (numAt c k)) == t) else false
def rowTo (op : BitVec 64) (wide : Bool) (a c : BitVec 64) (t : Bool) (i : Nat) : Nat → Bool
 | 0 => false
 | k + 1 => rowTo op wide a c t i k || cellJ op wide a c t i k
def canTo (op : BitVec 64) (wide : Bool) (a c : BitVec 64) (t : Bool) (m : Nat) : Nat → Bool
 | 0 => false
 | r + 1 => canTo op wide a c t m r || rowTo op wide a c t r m
theorem row_t {op : BitVec 64} {wide : Bool} {a c : BitVec 64} {t : Bool} {i k : Nat} {x : Bool} (h : cellJ op wide a c t i k = true) : (x || rowTo op wide a c t i (k + 1)) = true := by
 show (x || (rowTo op wide a c t i k || cellJ op wide a c t i k)) = true
 rw [h]; cases x <;> simp
theorem row_f {op : BitVec 64} {wide : Bool} {a c : BitVec 64} {t : Bool} {i k : Nat} {x : Bool} (h : cellJ op wide a c t i k = false) : (x || rowTo op wide a c t i (k + 1)) = (x || rowTo op wide a c t i k) := by
 show (x || (rowTo op wide a c t i k || cellJ op wide a c t i k)) = _
 rw [h, Bool.or_false]
theorem row_iff (op : BitVec 64) (wide : Bool) (a c : BitVec 64) (t : Bool) (i m : Nat) : rowTo op wide a c t i m = true ↔ ∃ k, k < m ∧ cellJ op wide a c t i k = true := by
 induction m with
 | zero => simp [rowTo]
 | succ m ih =>
  unfold rowTo
  rw [Bool.or_eq_true, ih]
  constructor
  ·rintro (⟨k, h1, h2⟩ | h)
   ·exact ⟨k, by omega, h2⟩
   ·exact ⟨m, by omega, h⟩
  ·rintro ⟨k, h1, h2⟩
   by_cases e : k = m
   ·subst e; exact .inr h2
   ·exact .inl ⟨k, by omega, h2⟩
theorem can_iff (op : BitVec 64) (wide : Bool) (a c : BitVec 64) (t : Bool) (m n : Nat) : canTo op wide a c t m n = true ↔ ∃ i, i < n ∧ ∃ k, k < m ∧ cellJ op wide a c t i k = true := by
 induction n with
 | zero => simp [canTo]
 | succ n ih =>
  unfold canTo
  rw [Bool.or_eq_true, ih, row_iff]
  constructor
  ·rintro (⟨i, h1, h2⟩ | h)
   ·exact ⟨i, by omega, h2⟩
   ·exact ⟨n, by omega, h⟩
  ·rintro ⟨i, h1, h2⟩
   by_cases e : i = n
   ·subst e; exact .inr h2
   ·exact .inl ⟨i, by omega, h2⟩
def cnt (a b : BitVec 64) : Nat := (tn b - tn a + 1).toNat
theorem num_at {a b : BitVec 64} (hb : tn b ≤ 4) {i : Nat} (hi : i < cnt a b) : tn (numAt a i) = tn a + i := by
 have h0 := tn_lo a
 unfold cnt at hi
 have e : tn (BitVec.ofNat 64 i) = i := by unfold tn; rw [BitVec.toNat_ofNat]; omega
 rw [numAt_is, tn_add, e]
 omega
theorem num_is {a b v : BitVec 64} (h1 : tn a ≤ tn v) (h2 : tn v ≤ tn b) : ∃ i, i < cnt a b ∧ v = numAt a i := by
 refine ⟨(tn v - tn a).toNat, by unfold cnt; omega, tn_inj ?_⟩
 have h0 := tn_lo a
 have h3 := tn_hi64 v
 have e : tn (BitVec.ofNat 64 (tn v - tn a).toNat) = tn v - tn a := by unfold tn at *; rw [BitVec.toNat_ofNat]; omega
 rw [numAt_is, tn_add, e]
 omega
theorem num_bd {a b : BitVec 64} (hb : tn b ≤ 4) {i : Nat} (hi : i < cnt a b) : tn a ≤ tn (numAt a i) ∧ tn (numAt a i) ≤ tn b := by
 rw [num_at hb hi]
 unfold cnt at hi
 omega
theorem num_le {a b : BitVec 64} (hb : tn b ≤ 4) {i : Nat} (hi : i < cnt a b) : leU (numAt a i) b = true := decide_eq_true (num_bd hb hi).2
theorem num_end {a b : BitVec 64} (hab : tn a ≤ tn b) (hb : tn b ≤ 4) {i : Nat} (hi : i = cnt a b) : leU (numAt a i) b = false := by
 refine decide_eq_false ?_
 have h0 := tn_lo a
 have e : tn (BitVec.ofNat 64 i) = i := by unfold tn; rw [BitVec.toNat_ofNat]; unfold cnt at hi; omega
 rw [numAt_is, tn_add, e]
 unfold cnt at hi
 omega
theorem num_next (a : BitVec 64) (i : Nat) : numAt a i + 1#64 = numAt a (i + 1) := by
 rw [numAt_is, numAt_is, BitVec.add_assoc]
 congr 1
 apply BitVec.eq_of_toNat_eq
 rw [BitVec.toNat_add, BitVec.toNat_ofNat, BitVec.toNat_ofNat]
 show (i % 2 ^ 64 + 1) % 2 ^ 64 = (i + 1) % 2 ^ 64
 omega
def opAt : Nat → BitVec 64
 | 0 => 0#64
 | k + 1 => BitVec.ofNat 64 (16 * (k + 1))
theorem opAt_is (k : Nat) : opAt k = BitVec.ofNat 64 (16 * k) := by cases k <;> rfl
theorem op_next (k : Nat) : opAt k + 16#64 = opAt (k + 1) := by
 rw [opAt_is, opAt_is]
 apply BitVec.eq_of_toNat_eq
 rw [BitVec.toNat_add, BitVec.toNat_ofNat, BitVec.toNat_ofNat]
 show (16 * k % 2 ^ 64 + 16) % 2 ^ 64 = (16 * (k + 1)) % 2 ^ 64
 omega
theorem op_ti {k : Nat} (h : k ≤ 16) : ti (opAt k) = 16 * k := by
 have e : (opAt k).toNat = 16 * k := by rw [opAt_is, BitVec.toNat_ofNat]; omega
 unfold ti
 rw [BitVec.toInt_eq_toNat_cond, e, if_pos (by omega)]
 omega
theorem op_lt {k : Nat} (h : k < 16) : ltI (opAt k) 256#64 = true := by
 refine decide_eq_true ?_
 rw [op_ti (by omega), show ti 256#64 = 256 from by decide]; omega
theorem op_end {k : Nat} (h : k = 16) : ltI (opAt k) 256#64 = false := by
 refine decide_eq_false ?_
 rw [op_ti (by omega), show ti 256#64 = 256 from by decide]; omega
theorem le_l {a b c d : BitVec 64} (h : (bif (gtU a b) then true else (gtU c d)) = false) : tn a ≤ tn b := by
 cases k : gtU a b
 ·have := of_decide_eq_false k; omega
 ·rw [k] at h; cases h
theorem le_r {a b c d : BitVec 64} (h : (bif (gtU a b) then true else (gtU c d)) = false) : tn c ≤ tn d := by
 cases k : gtU a b
 ·rw [k, cond_f rfl] at h
  have := of_decide_eq_false h; omega
 ·rw [k] at h; cases h
theorem of5 (k : Nat) : tn (BitVec.ofNat 64 (k % 5)) ≤ 4 := by unfold tn; rw [BitVec.toNat_ofNat]; omega
theorem of125 {k : Nat} (h : k < 625) : tn (BitVec.ofNat 64 (k / 125)) ≤ 4 := by unfold tn; rw [BitVec.toNat_ofNat]; omega
theorem ord_flag {a b : P} {g : BitVec 64} (hg : tn g ≤ 1) (h : (scalar_ordered_uint64 a b g).2.2 = true) : tn a.lo + tn g ≤ tn b.hi := by
 unfold scalar_ordered_uint64 at h
 have g0 := tn_lo g
 cases c : gtU a.lo b.hi
 ·have c' := of_decide_eq_false c
  rw [c, cond_f rfl] at h
  cases e : a.lo == b.hi
  ·have := tn_ne e
   omega
  ·rw [e, cond_t rfl] at h
   cases d : gtU g 0#64
   ·have d' := of_decide_eq_false d
    rw [show tn 0#64 = 0 from rfl] at d'
    have e' := congrArg tn (beq_iff_eq.1 e)
    omega
   ·rw [d] at h; cases h
 ·rw [c] at h; cases h
theorem bnd_wit {op : BitVec 64} (ho : op = 32#64 ∨ op = 48#64 ∨ op = 160#64 ∨ op = 176#64) {a b c d : BitVec 64} (hab : tn a ≤ tn b) (hcd : tn c ≤ tn d) (h : (bnd op (btw a b) (btw c d)).2.2 = true) :
  ∃ v w : BitVec 64, (tn a ≤ tn v ∧ tn v ≤ tn b) ∧ (tn c ≤ tn w ∧ tn w ≤ tn d) ∧ jmpR op true v w = true := by
 have z : tn 0#64 = 0 := rfl
 have l1 := btw_lo hab; have l2 := btw_hi hab; have l3 := btw_lo hcd; have l4 := btw_hi hcd
 rcases ho with rfl | rfl | rfl | rfl
 ·have q := ord_flag (a := (btw c d).u) (b := (btw a b).u) (g := 1#64) (by decide) h
  rw [tn_one] at q
  refine ⟨b, c, ⟨hab, Int.le_refl _⟩, ⟨Int.le_refl _, hcd⟩, ?_⟩
  show decide (c.toNat < b.toNat) = true
  exact decide_eq_true (by unfold tn at *; omega)
 ·have q := ord_flag (a := (btw c d).u) (b := (btw a b).u) (g := 0#64) (by decide) h
  rw [z] at q
  refine ⟨b, c, ⟨hab, Int.le_refl _⟩, ⟨Int.le_refl _, hcd⟩, ?_⟩
  show decide (c.toNat ≤ b.toNat) = true
  exact decide_eq_true (by unfold tn at *; omega)
 ·have q := ord_flag (a := (btw a b).u) (b := (btw c d).u) (g := 1#64) (by decide) h
  rw [tn_one] at q
  refine ⟨a, d, ⟨Int.le_refl _, hab⟩, ⟨hcd, Int.le_refl _⟩, ?_⟩
  show decide (a.toNat < d.toNat) = true
  exact decide_eq_true (by unfold tn at *; omega)
 ·have q := ord_flag (a := (btw a b).u) (b := (btw c d).u) (g := 0#64) (by decide) h
  rw [z] at q
  refine ⟨a, d, ⟨Int.le_refl _, hab⟩, ⟨hcd, Int.le_refl _⟩, ?_⟩
  show decide (a.toNat ≤ d.toNat) = true
  exact decide_eq_true (by unfold tn at *; omega)
theorem tn_max_le {x y : BitVec 64} {k : Int} (h1 : tn x ≤ k) (h2 : tn y ≤ k) : tn (maxU x y) ≤ k := by
 have := max_ge x y
 omega
theorem short4 (op : BitVec 64) {x y : BitVec 64} (h1 : tn x ≤ 4) (h2 : tn y ≤ 4) : scalar_short op x y = true := by
 have m := tn_max_le h1 h2
 have q1 : ltU (maxU x y) 2147483648#64 = true := decide_eq_true (by rw [show tn 2147483648#64 = 2147483648 from rfl]; omega)
 have q2 : ltU (maxU x y) 4294967296#64 = true := decide_eq_true (by rw [show tn 4294967296#64 = 4294967296 from rfl]; omega)
 unfold scalar_short
 rw [q1, q2]
 cases op == 96#64 <;> cases op == 112#64 <;> cases op == 192#64 <;> cases op == 208#64 <;> rfl
theorem order_ops {op : BitVec 64} (ho : op = 32#64 ∨ op = 48#64 ∨ op = 160#64 ∨ op = 176#64) : (op == 64#64) = false ∧ (partner5 op = 32#64 ∨ partner5 op = 48#64 ∨ partner5 op = 160#64 ∨ partner5 op = 176#64) ∧ op ≠ 64#64 := by
 rcases ho with rfl | rfl | rfl | rfl
 ·exact ⟨rfl, .inr (.inr (.inr rfl)), by decide⟩
 ·exact ⟨rfl, .inr (.inr (.inl rfl)), by decide⟩
 ·exact ⟨rfl, .inr (.inl rfl), by decide⟩
 ·exact ⟨rfl, .inl rfl, by decide⟩
theorem may_can {op : BitVec 64} {wide t : Bool} {a b c d : BitVec 64} (hab : tn a ≤ tn b) (hb : tn b ≤ 4) (hcd : tn c ≤ tn d) (hd : tn d ≤ 4) (js : jmpIs (ti op) = true)
  (ex : (a = b ∧ c = d) ∨ op = 32#64 ∨ op = 48#64 ∨ op = 160#64 ∨ op = 176#64) (h : (scalar_Branch op wide (btw a b) (btw c d) t).2.2 = true) :
  ∃ v w : BitVec 64, (tn a ≤ tn v ∧ tn v ≤ tn b) ∧ (tn c ≤ tn w ∧ tn w ≤ tn d) ∧ jmpR op wide v w = t := by
 rw [branch_is, js, show (!true) = false from rfl, cond_f rfl] at h
 cases s : single2 (btw a b) (btw c d)
 ·rw [s, cond_f rfl] at h
  rcases ex with ⟨rfl, rfl⟩ | ho
  ·exfalso
   have e1 := btw_single (a := a) hb
   have e2 := btw_single (a := c) hd
   unfold single1 at e1 e2
   unfold single2 at s
   revert e1 e2 s
   cases (btw a a).t.hi != 0#64 <;> cases (btw c c).t.hi != 0#64 <;> simp
  ·have sh : scalar_short op (btw a b).u.hi (btw c d).u.hi = true := short4 op (by rw [btw_hi hab]; exact hb) (by rw [btw_hi hcd]; exact hd)
   rw [sh, show (!true) = false from rfl, Bool.and_false, cond_f rfl] at h
   have h1 : (scalar_bounded op (btw a b) (btw c d) t).2.2 = true := by
    unfold settle2 at h
    cases q : (scalar_bounded op (btw a b) (btw c d) t).2.2
    ·rw [q] at h; cases h
    ·rfl
   obtain ⟨o1, o2, o3⟩ := order_ops ho
   rw [bounded_is op _ _ t js, o1, cond_f rfl] at h1
   have wide_is : ∀ v w : BitVec 64, tn v ≤ tn b → tn w ≤ tn d → jmpR op wide v w = jmpR op true v w := fun v w hv hw => by
    cases wide
    ·exact short_is js hv hw (short4 op hb hd)
    ·rfl
   cases t
   ·rw [cond_f rfl] at h1
    obtain ⟨v, w, hv, hw, hj⟩ := bnd_wit o2 hab hcd h1
    obtain ⟨_, _, n3⟩ := other_is js o3
    rw [n3] at hj
    exact ⟨v, w, hv, hw, by rw [wide_is v w hv.2 hw.2]; revert hj; cases jmpR op true v w <;> simp⟩
   ·rw [cond_t rfl] at h1
    obtain ⟨v, w, hv, hw, hj⟩ := bnd_wit ho hab hcd h1
    exact ⟨v, w, hv, hw, by rw [wide_is v w hv.2 hw.2]; exact hj⟩
 ·rw [s, cond_t rfl] at h
  obtain ⟨k1, k2⟩ := single2_both s
  refine ⟨a, c, ⟨Int.le_refl _, hab⟩, ⟨Int.le_refl _, hcd⟩, ?_⟩
  rw [← single1_val (btw_in (Int.le_refl _) hab).2 k1, ← single1_val (btw_in (Int.le_refl _) hcd).2 k2] at h
  cases q : jmpR op wide a c != t
  ·revert q
   cases jmpR op wide a c <;> cases t <;> simp
  ·rw [q] at h; cases h
theorem exact_may {op : BitVec 64} {wide t : Bool} {a b c d : BitVec 64} (hab : tn a ≤ tn b) (hb : tn b ≤ 4) (hcd : tn c ≤ tn d) (hd : tn d ≤ 4)
  (ex : (bif (jmpIs (ti op)) then (bif (bif (bif (bif (bif (a == b) then (c == d) else false) then true else (op == 32#64)) then true else (op == 48#64)) then true else (op == 160#64)) then true else (op == 176#64)) else false) = true) :
  (scalar_Branch op wide (btw a b) (btw c d) t).2.2 = canTo op wide a c t (cnt c d) (cnt a b) := by
 have js := bif_l ex
 have e2 := bif_r ex
 have ex' : (a = b ∧ c = d) ∨ op = 32#64 ∨ op = 48#64 ∨ op = 160#64 ∨ op = 176#64 := by
  revert e2
  cases h1 : op == 32#64
  ·cases h2 : op == 48#64
   ·cases h3 : op == 160#64
    ·cases h4 : op == 176#64
     ·intro q
      refine .inl ?_
      revert q
      cases p1 : a == b
      ·simp
      ·cases p2 : c == d
       ·simp
       ·intro _
        exact ⟨beq_iff_eq.1 p1, beq_iff_eq.1 p2⟩
     ·intro _; exact .inr (.inr (.inr (.inr (beq_iff_eq.1 h4))))
    ·intro _; exact .inr (.inr (.inr (.inl (beq_iff_eq.1 h3))))
   ·intro _; exact .inr (.inr (.inl (beq_iff_eq.1 h2)))
  ·intro _; exact .inr (.inl (beq_iff_eq.1 h1))
 cases hc : canTo op wide a c t (cnt c d) (cnt a b)
 ·cases hm : (scalar_Branch op wide (btw a b) (btw c d) t).2.2
  ·rfl
  ·exfalso
   obtain ⟨v, w, ⟨v1, v2⟩, ⟨w1, w2⟩, hj⟩ := may_can hab hb hcd hd js ex' hm
   obtain ⟨i, i1, rfl⟩ := num_is v1 v2
   obtain ⟨k, k1, rfl⟩ := num_is w1 w2
   have : canTo op wide a c t (cnt c d) (cnt a b) = true := (can_iff ..).2 ⟨i, i1, k, k1, by unfold cellJ; rw [js, cond_t rfl, hj]; cases t <;> rfl⟩
   rw [hc] at this
   cases this
 ·obtain ⟨i, i1, k, k1, hj⟩ := (can_iff ..).1 hc
  obtain ⟨v1, v2⟩ := num_bd hb i1
  obtain ⟨w1, w2⟩ := num_bd hd k1
  obtain ⟨c1, m1⟩ := btw_in v1 v2
  obtain ⟨c2, m2⟩ := btw_in w1 w2
  unfold cellJ at hj
  exact (branch_has js c1 c2 m1 m2 (eq_of_beq (bif_r hj))).may
end Go.Proofs.YtmcapfbkedfdkaaGreatDoor.Sp
