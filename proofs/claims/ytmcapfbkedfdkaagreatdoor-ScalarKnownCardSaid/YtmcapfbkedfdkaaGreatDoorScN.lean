/-
  Plain facts: the laws' scalars about a number, settling. No program is looked at here.
-/
import Derived.Test.YtmcapfbkedfdkaaGreatDoorScK
import Derived.Test.YtmcapfbkedfdkaaGreatDoorScM
namespace Go.Proofs.YtmcapfbkedfdkaaGreatDoor.Sp
open Go.RowKit Go.Proofs.YtmcapfbkedfdkaaGreatDoor.Num Go.Proofs.YtmcapfbkedfdkaaGreatDoor.Up Go.Proofs.YtmcapfbkedfdkaaGreatDoor.Tn
theorem not_t {b : Bool} (h : b = true) : (!b) = false := by rw [h]; rfl
theorem nb_f {a b : Bool} (h : a = b) : (a != b) = false := by rw [h]; cases b <;> rfl
theorem beq_tt {a b : Bool} (h : a = b) : (a == b) = true := by rw [h]; cases b <;> rfl
theorem eqSc_t {a b : Sc} (h : a = b) : eqSc a b = true := by rw [h]; unfold eqSc eqP eqS; simp
theorem of_in1 (v : BitVec 64) : scalar_In (Sc.mk (P.mk v 0#64) (P.mk v v) (P.mk v v)) v = true := in3.2 ⟨tnOf_in v, one_in v, Int.le_refl _, Int.le_refl _⟩
theorem of_eq (v w : BitVec 64) : scalar_In (Sc.mk (P.mk v 0#64) (P.mk v v) (P.mk v v)) w = (v == w) := by
 cases h : v == w
 ·cases k : scalar_In (Sc.mk (P.mk v 0#64) (P.mk v v) (P.mk v v)) w
  ·rfl
  ·obtain ⟨_, ⟨h1, h2⟩, _⟩ := in3.1 k
   have e : v = w := tn_inj (Int.le_antisymm h1 h2)
   rw [e] at h
   simp at h
 ·rw [← beq_iff_eq.1 h]
  exact of_in1 v
theorem clean_if {a b : Bool} {t : P} (h : (bif (bif a then true else b) then true else ((t.lo &&& t.hi) != 0#64)) = false) : clean t := by
 revert h
 unfold clean
 cases a <;> cases b <;> simp
theorem around_u (v d u : BitVec 64) : inS (P.mk (v - minU d v) (v + minU u (18446744073709551615#64 - v))) v := by
 have h0 := tn_lo v; have h1 := tn_hi64 v
 have m1 := min_le d v
 have m2 := min_le u (18446744073709551615#64 - v)
 have m3 := tn_lo (minU d v); have m4 := tn_lo (minU u (18446744073709551615#64 - v))
 have e : tn (18446744073709551615#64 - v) = 18446744073709551615 - tn v := by
  rw [tn_sub, show tn 18446744073709551615#64 = 18446744073709551615 from rfl]; omega
 refine ⟨?_, ?_⟩
 ·show tn (v - minU d v) ≤ tn v
  rw [tn_sub]; omega
 ·show tn v ≤ tn (v + minU u (18446744073709551615#64 - v))
  rw [tn_add]; omega
theorem around_t (v m : BitVec 64) : clean (P.mk (v &&& ~~~m) m) ∧ tnIn (P.mk (v &&& ~~~m) m) v = true := by
 refine ⟨?_, ?_⟩
 ·unfold clean
  simp only
  rw [BitVec.and_assoc, BitVec.and_comm (~~~m), BitVec.and_not_self]; simp
 ·unfold tnIn
  rw [in_iff]
  intro i hi
  show wb (v.getLsbD i) false ((v &&& ~~~m).getLsbD i) (m.getLsbD i) = false
  rw [BitVec.getLsbD_and, BitVec.getLsbD_not]
  simp only [hi, decide_true, Bool.true_and]
  generalize v.getLsbD i = p; generalize m.getLsbD i = q
  revert p q; decide
theorem around_aux {s : P} (v m d u : BitVec 64) (hs : inZ s v) :
  clean (bif (!((scalar_Norm (Sc.mk (P.mk (v &&& ~~~m) m) (P.mk (v - (minU d v)) (v + (minU u (18446744073709551615#64 - v)))) s)).2)) then (scalar_All) else ((scalar_Norm (Sc.mk (P.mk (v &&& ~~~m) m) (P.mk (v - (minU d v)) (v + (minU u (18446744073709551615#64 - v)))) s)).1)).t ∧
  scalar_In (bif (!((scalar_Norm (Sc.mk (P.mk (v &&& ~~~m) m) (P.mk (v - (minU d v)) (v + (minU u (18446744073709551615#64 - v)))) s)).2)) then (scalar_All) else ((scalar_Norm (Sc.mk (P.mk (v &&& ~~~m) m) (P.mk (v - (minU d v)) (v + (minU u (18446744073709551615#64 - v)))) s)).1)) v = true := by
 obtain ⟨c, h⟩ := around_t v m
 have hx : scalar_In (Sc.mk (P.mk (v &&& ~~~m) m) (P.mk (v - (minU d v)) (v + (minU u (18446744073709551615#64 - v)))) s) v = true := in3.2 ⟨h, around_u v d u, hs⟩
 obtain ⟨h1, h2⟩ := norm_in c hx
 rw [cond_nn, cond_t h1]
 exact ⟨step_norm.neat _ c h1, h2⟩
theorem m62 : ti 13835058055282163712#64 = -4611686018427387904 := by decide
theorem around_in (v m d u : BitVec 64) : clean (law_around v m d u).t ∧ scalar_In (law_around v m d u) v = true := by
 have b := ti_bd v
 unfold law_around
 cases h1 : (d % 2#64) == 1#64
 ·rw [cond_f rfl]
  exact around_aux v m d u (sall_in v)
 ·rw [cond_t rfl]
  cases h2 : ltI v 13835058055282163712#64
  ·rw [cond_f rfl]
   refine around_aux v m d u ⟨?_, Int.le_refl _⟩
   have h3 := of_decide_eq_false h2
   rw [m62] at h3
   show ti (maxI (v - (d % 1000#64)) 9223372036854775808#64) ≤ ti v
   have h4 : tn (d % 1000#64) = tn d % 1000 := rem_tn _ _
   have h5 := tn_lo d
   have h6 : ti (d % 1000#64) = tn d % 1000 := by rw [ti_eq, h4]; split <;> omega
   have h7 : ti (v - (d % 1000#64)) = ti v - tn d % 1000 := by rw [ti_sub, h6]; omega
   rcases (smax_ge (v - (d % 1000#64)) 9223372036854775808#64).1 with e | e
   ·rw [e, h7]; omega
   ·rw [e, m8']; omega
  ·rw [cond_t rfl]
   refine around_aux v m d u ⟨?_, Int.le_refl _⟩
   show ti 9223372036854775808#64 ≤ ti v
   rw [m8']; omega
end Go.Proofs.YtmcapfbkedfdkaaGreatDoor.Sp
