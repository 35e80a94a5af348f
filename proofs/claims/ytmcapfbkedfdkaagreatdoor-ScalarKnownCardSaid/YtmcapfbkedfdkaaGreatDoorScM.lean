/-
  Plain facts: tnums of P's, settling. No program is looked at here.
-/
import Derived.Test.YtmcapfbkedfdkaaGreatDoorScC
import Derived.Test.YtmcapfbkedfdkaaGreatDoorSpU
import Derived.Test.YtmcapfbkedfdkaaGreatDoorTnO
import Derived.Test.YtmcapfbkedfdkaaGreatDoorTnP
namespace Go.Proofs.YtmcapfbkedfdkaaGreatDoor.Sp
open Go.RowKit Go.Proofs.YtmcapfbkedfdkaaGreatDoor.Num Go.Proofs.YtmcapfbkedfdkaaGreatDoor.Up Go.Proofs.YtmcapfbkedfdkaaGreatDoor.Tn
theorem some_of {a : T} {v : BitVec 64} (h : inB a v = true) : someR a v = v := by
 rw [in_iff] at h
 apply BitVec.eq_of_getLsbD_eq
 intro i hi
 have k := h i hi
 unfold someR
 rw [some_bit _ _ _ hi]
 revert k
 generalize a.v.getLsbD i = p; generalize a.m.getLsbD i = q; generalize v.getLsbD i = t
 revert p q t; decide
theorem some_of' {a : T} {v : BitVec 64} (h : inB a v = true) : a.lo ||| (v &&& a.m) = v := some_of h
theorem tnAnd_in {a b : P} {v w : BitVec 64} (h : tnIn a v = true) (k : tnIn b w = true) : tnIn (tnAnd a b) (v &&& w) = true := by
 have e := and_in (ofP a) (ofP b) v w
 rw [some_of h, some_of k] at e
 exact e
theorem tnOr_in {a b : P} {v w : BitVec 64} (h : tnIn a v = true) (k : tnIn b w = true) : tnIn (tnOr a b) (v ||| w) = true := by
 have e := or_in (ofP a) (ofP b) v w
 rw [some_of h, some_of k] at e
 exact e
theorem tnXor_in {a b : P} {v w : BitVec 64} (h : tnIn a v = true) (k : tnIn b w = true) : tnIn (tnXor a b) (v ^^^ w) = true := by
 have e := xor_in (ofP a) (ofP b) v w
 rw [some_of h, some_of k] at e
 exact e
theorem tnAdd_in {a b : P} {v w : BitVec 64} (h : tnIn a v = true) (k : tnIn b w = true) : tnIn (tnAdd a b) (v + w) = true := by
 have e := add_in (ofP a) (ofP b) v w
 rw [some_of h, some_of k] at e
 exact e
theorem tnSub_in {a b : P} {v w : BitVec 64} (h : tnIn a v = true) (k : tnIn b w = true) : tnIn (tnSub a b) (v - w) = true := by
 have e := sub_in (ofP a) (ofP b) v w
 rw [some_of h, some_of k] at e
 exact e
theorem tnMul_in {a b : P} {v w : BitVec 64} (h : tnIn a v = true) (k : tnIn b w = true) : tnIn (tnMul a b) (v * w) = true := by
 have e := mul_in (ofP a) (ofP b) v w _ _ (tzN_spec _) (tzN_spec _)
 rw [some_of h, some_of k] at e
 exact e
theorem tnCut_in {a : P} {v : BitVec 64} (h : tnIn a v = true) : tnIn (tnCut a) (v &&& 4294967295#64) = true := by
 have e := cut_in (ofP a) v
 rw [some_of h] at e
 exact e
theorem tnLsh_in {a : P} {v : BitVec 64} (n : BitVec 64) (h : tnIn a v = true) : tnIn (tnLsh a n) (aluV 64 96 v n) = true := by
 have e := lsh_in (ofP a) v n
 rw [some_of h] at e
 exact e
theorem tnRsh_in {a : P} {v : BitVec 64} (n : BitVec 64) (h : tnIn a v = true) : tnIn (tnRsh a n) (aluV 64 112 v n) = true := by
 have e := rsh_in (ofP a) v n
 rw [some_of h] at e
 exact e
theorem tnArsh_in {a : P} {v : BitVec 64} (n : BitVec 64) (h : tnIn a v = true) : tnIn (tnArsh a n) (aluV 64 192 v n) = true := by
 have e := arsh_in (ofP a) v n
 rw [some_of h] at e
 exact e
theorem tnAll_in (v : BitVec 64) : tnIn (P.mk 0#64 18446744073709551615#64) v = true := by
 have e : (ofP (P.mk 0#64 18446744073709551615#64)) = ⟨0#64, BitVec.allOnes 64⟩ := rfl
 unfold tnIn inB
 rw [e]
 exact within_all _
theorem tnOf_in (v : BitVec 64) : tnIn (P.mk v 0#64) v = true := Tn.of_in v
theorem tnMeet_in {a b : P} {v : BitVec 64} (h : tnIn a v = true) (k : tnIn b v = true) : (tnMeet a b).2 = true ∧ tnIn (tnMeet a b).1 v = true := by
 have e := some_of' h
 have k' : inB (ofP b) ((ofP a).lo ||| (v &&& (ofP a).m)) = true := by rw [e]; exact k
 have h1 := meet_none (ofP a) (ofP b) v k'
 have h2 := meet_has (ofP a) (ofP b) v k'
 rw [e] at h2
 refine ⟨?_, h2⟩
 show (!noneB (ofP a) (ofP b)) = true
 rw [h1]; rfl
theorem tnMeet_none {a b : P} (h : (tnMeet a b).2 = true) : noneB (ofP a) (ofP b) = false := by
 have h' : (!noneB (ofP a) (ofP b)) = true := h
 revert h'
 cases noneB (ofP a) (ofP b) <;> simp
theorem tnMeet_l {a b : P} (h : (tnMeet a b).2 = true) : tnWithin (tnMeet a b).1 a = true := meet_left _ _ (tnMeet_none h)
theorem tnMeet_r {a b : P} (h : (tnMeet a b).2 = true) : tnWithin (tnMeet a b).1 b = true := meet_right _ _ (tnMeet_none h)
theorem tnWithin_self (a : P) : tnWithin a a = true := within_self _
theorem tnWithin_trans {a b c : P} (h : tnWithin a b = true) (k : tnWithin b c = true) : tnWithin a c = true := by
 unfold tnWithin at *
 rw [Tn.within_iff] at h k ⊢
 intro i hi
 have h := h i hi
 have k := k i hi
 revert h k
 generalize (ofP a).v.getLsbD i = p; generalize (ofP a).m.getLsbD i = q; generalize (ofP b).v.getLsbD i = r; generalize (ofP b).m.getLsbD i = s; generalize (ofP c).v.getLsbD i = t; generalize (ofP c).m.getLsbD i = u
 revert p q r s t u; decide
theorem tnWithin_in {a b : P} {v : BitVec 64} (h : tnWithin a b = true) (k : tnIn a v = true) : tnIn b v = true := by
 have e := Tn.within_in (ofP a) (ofP b) v h
 rw [some_of' k] at e
 exact e
theorem tnWithin_all (a : P) : tnWithin a (P.mk 0#64 18446744073709551615#64) = true := by
 have e : (ofP (P.mk 0#64 18446744073709551615#64)) = ⟨0#64, BitVec.allOnes 64⟩ := rfl
 unfold tnWithin
 rw [e]
 exact within_all _
def clean (t : P) : Prop := t.lo &&& t.hi = 0#64
theorem clean_bit {t : P} (h : clean t) (i : Nat) : (t.lo.getLsbD i && t.hi.getLsbD i) = false := by
 have := congrArg (fun x => x.getLsbD i) h
 simpa using this
theorem clean_of {t : P} (h : ∀ i, i < 64 → (t.lo.getLsbD i && t.hi.getLsbD i) = false) : clean t := by
 apply BitVec.eq_of_getLsbD_eq
 intro i hi
 rw [BitVec.getLsbD_and, h i hi]
 simp
theorem tnMeet_clean {a b : P} (h : (tnMeet a b).2 = true) : clean (tnMeet a b).1 := by
 have hn := tnMeet_none h
 refine clean_of fun i hi => ?_
 show ((meetR (ofP a) (ofP b)).v.getLsbD i && (meetR (ofP a) (ofP b)).m.getLsbD i) = false
 have k := (none_iff _ _).1 hn i hi
 rw [meet_v _ _ hn _ hi, meet_m _ _ hn _ hi]
 revert k
 generalize (ofP a).v.getLsbD i = p; generalize (ofP a).m.getLsbD i = q; generalize (ofP b).v.getLsbD i = r; generalize (ofP b).m.getLsbD i = s
 revert p q r s; decide
theorem clean_in {t : P} {v : BitVec 64} (hc : clean t) (h : tnIn t v = true) : v &&& ~~~t.hi = t.lo := by
 unfold tnIn at h
 rw [in_iff] at h
 apply BitVec.eq_of_getLsbD_eq
 intro i hi
 have k := h i hi
 have c := clean_bit hc i
 have k' : wb (v.getLsbD i) false (t.lo.getLsbD i) (t.hi.getLsbD i) = false := k
 rw [BitVec.getLsbD_and, BitVec.getLsbD_not]
 simp only [hi, decide_true, Bool.true_and]
 revert k' c
 generalize v.getLsbD i = p; generalize t.lo.getLsbD i = q; generalize t.hi.getLsbD i = r
 revert p q r; decide
theorem bits_tn {a : P} {v : BitVec 64} (h : inS a v) : tnIn (P.mk (a.lo &&& ~~~(onesV (a.lo ^^^ a.hi))) (onesV (a.lo ^^^ a.hi))) v = true := by
 have e := bits_in' h
 generalize onesV (a.lo ^^^ a.hi) = m at *
 unfold tnIn
 rw [in_iff]
 intro i hi
 have k := congrArg (fun x => x.getLsbD i) e
 simp only [BitVec.getLsbD_and, BitVec.getLsbD_not, hi, decide_true, Bool.true_and] at k
 show wb (v.getLsbD i) false ((a.lo &&& ~~~m).getLsbD i) (m.getLsbD i) = false
 rw [BitVec.getLsbD_and, BitVec.getLsbD_not]
 simp only [hi, decide_true, Bool.true_and]
 revert k
 generalize v.getLsbD i = p; generalize a.lo.getLsbD i = q; generalize m.getLsbD i = r
 revert p q r; decide
theorem subU_iff {a b : P} : span_within_uint64 a b = true ↔ tn b.lo ≤ tn a.lo ∧ tn a.hi ≤ tn b.hi := by
 unfold span_within_uint64 leU
 by_cases h : tn b.lo ≤ tn a.lo <;> simp [h]
theorem subI_iff {a b : P} : span_within_int64 a b = true ↔ ti b.lo ≤ ti a.lo ∧ ti a.hi ≤ ti b.hi := by
 unfold span_within_int64 leI
 by_cases h : ti b.lo ≤ ti a.lo <;> simp [h]
theorem meet_l {a b : P} (h : (span_meet_uint64 a b).2 = true) : tn a.lo ≤ tn (span_meet_uint64 a b).1.lo ∧ tn (span_meet_uint64 a b).1.hi ≤ tn a.hi := by
 unfold span_meet_uint64 at *
 cases c : gtU (maxU a.lo b.lo) (minU a.hi b.hi)
 ·rw [cond_f rfl]
  have := max_ge a.lo b.lo
  have := min_le a.hi b.hi
  simp only
  omega
 ·rw [c, cond_t rfl] at h
  cases h
theorem smeet_l {a b : P} (h : (span_meet_int64 a b).2 = true) : ti a.lo ≤ ti (span_meet_int64 a b).1.lo ∧ ti (span_meet_int64 a b).1.hi ≤ ti a.hi := by
 unfold span_meet_int64 at *
 cases c : gtI (maxI a.lo b.lo) (minI a.hi b.hi)
 ·rw [cond_f rfl]
  have := smax_ge a.lo b.lo
  have := smin_le a.hi b.hi
  simp only
  omega
 ·rw [c, cond_t rfl] at h
  cases h
theorem in3 {x : Sc} {v : BitVec 64} : scalar_In x v = true ↔ tnIn x.t v = true ∧ inS x.u v ∧ inZ x.s v := by
 have e1 : span_within_uint64 (P.mk v v) x.u = true ↔ inS x.u v := ⟨Sp.of_in, Sp.in_of⟩
 have e2 : span_within_int64 (P.mk v v) x.s = true ↔ inZ x.s v := ⟨of_sin, sin_of⟩
 unfold scalar_In
 rw [← e1, ← e2]
 cases tnIn x.t v <;> cases span_within_uint64 (P.mk v v) x.u <;> simp
theorem within3 {x y : Sc} : scalar_Within x y = true ↔ tnWithin x.t y.t = true ∧ (tn y.u.lo ≤ tn x.u.lo ∧ tn x.u.hi ≤ tn y.u.hi) ∧ (ti y.s.lo ≤ ti x.s.lo ∧ ti x.s.hi ≤ ti y.s.hi) := by
 rw [← subU_iff, ← subI_iff]
 unfold scalar_Within
 cases tnWithin x.t y.t <;> cases span_within_uint64 x.u y.u <;> simp
theorem sub_self (x : Sc) : scalar_Within x x = true := within3.2 ⟨tnWithin_self _, ⟨Int.le_refl _, Int.le_refl _⟩, Int.le_refl _, Int.le_refl _⟩
theorem sub_trans {x y z : Sc} (h : scalar_Within x y = true) (k : scalar_Within y z = true) : scalar_Within x z = true := by
 rw [within3] at *
 obtain ⟨h1, ⟨h2, h3⟩, h4, h5⟩ := h
 obtain ⟨k1, ⟨k2, k3⟩, k4, k5⟩ := k
 exact ⟨tnWithin_trans h1 k1, by omega, by omega⟩
theorem has_sub {x y : Sc} {v : BitVec 64} (h : scalar_Within x y = true) (k : scalar_In x v = true) : scalar_In y v = true := by
 rw [within3] at h
 rw [in3] at *
 obtain ⟨h1, ⟨h2, h3⟩, h4, h5⟩ := h
 obtain ⟨k1, ⟨k2, k3⟩, k4, k5⟩ := k
 exact ⟨tnWithin_in h1 k1, ⟨by omega, by omega⟩, ⟨by omega, by omega⟩⟩
theorem sub_all (x : Sc) : scalar_Within x scalar_All = true := by
 rw [within3]
 refine ⟨tnWithin_all _, ⟨tn_lo _, tn_hi64 _⟩, ?_, ?_⟩
 ·have := ti_bd x.s.lo
  show ti 9223372036854775808#64 ≤ _
  rw [m8']; omega
 ·have := ti_bd x.s.hi
  show _ ≤ ti 9223372036854775807#64
  rw [m7]; omega
theorem all_in3 (v : BitVec 64) : scalar_In scalar_All v = true := in3.2 ⟨tnAll_in v, all_in v, sall_in v⟩
structure Step (r : Sc → Sc × Bool) : Prop where
 keeps : ∀ x v, clean x.t → scalar_In x v = true → (r x).2 = true ∧ scalar_In (r x).1 v = true
 sub : ∀ x, (r x).2 = true → scalar_Within (r x).1 x = true
 neat : ∀ x, clean x.t → (r x).2 = true → clean (r x).1.t
theorem step1 : Step rule1 where
 keeps x v hc h := by
  obtain ⟨h1, h2, h3⟩ := in3.1 h
  obtain ⟨m1, m2⟩ := meet_in' h2 (tnum_in (clean_in hc h1))
  exact ⟨m1, in3.2 ⟨h1, m2, h3⟩⟩
 sub x h := within3.2 ⟨tnWithin_self _, meet_l h, Int.le_refl _, Int.le_refl _⟩
 neat x hc _ := hc
theorem step2 : Step rule2 where
 keeps x v hc h := by
  obtain ⟨h1, h2, h3⟩ := in3.1 h
  obtain ⟨m1, m2⟩ := smeet_in' h3 (show inZ (span_Sbounds x.t) v from sbounds_in (clean_in hc h1))
  exact ⟨m1, in3.2 ⟨h1, h2, m2⟩⟩
 sub x h := within3.2 ⟨tnWithin_self _, ⟨Int.le_refl _, Int.le_refl _⟩, smeet_l h⟩
 neat x hc _ := hc
theorem step3 : Step rule3 where
 keeps x v hc h := by
  obtain ⟨h1, h2, h3⟩ := in3.1 h
  obtain ⟨m1, m2⟩ := meet_in' h2 (toSpan_in h3)
  exact ⟨m1, in3.2 ⟨h1, m2, h3⟩⟩
 sub x h := within3.2 ⟨tnWithin_self _, meet_l h, Int.le_refl _, Int.le_refl _⟩
 neat x hc _ := hc
theorem step4 : Step rule4 where
 keeps x v hc h := by
  obtain ⟨h1, h2, h3⟩ := in3.1 h
  obtain ⟨m1, m2⟩ := smeet_in' h3 (toSigned_in h2)
  exact ⟨m1, in3.2 ⟨h1, h2, m2⟩⟩
 sub x h := within3.2 ⟨tnWithin_self _, ⟨Int.le_refl _, Int.le_refl _⟩, smeet_l h⟩
 neat x hc _ := hc
theorem step5 : Step rule5 where
 keeps x v hc h := by
  obtain ⟨h1, h2, h3⟩ := in3.1 h
  obtain ⟨m1, m2⟩ := tnMeet_in h1 (bits_tn h2)
  exact ⟨m1, in3.2 ⟨m2, h2, h3⟩⟩
 sub x h := within3.2 ⟨tnMeet_l h, ⟨Int.le_refl _, Int.le_refl _⟩, Int.le_refl _, Int.le_refl _⟩
 neat x _ h := tnMeet_clean h
def next (r k : Sc → Sc × Bool) (x : Sc) : Sc × Bool := bif (r x).2 then k (r x).1 else (scalar_All, false)
theorem step_next {r k : Sc → Sc × Bool} (hr : Step r) (hk : Step k) : Step (next r k) where
 keeps x v hc h := by
  obtain ⟨h1, h2⟩ := hr.keeps x v hc h
  unfold next
  rw [cond_t h1]
  exact hk.keeps _ v (hr.neat x hc h1) h2
 sub x h := by
  unfold next at *
  cases h1 : (r x).2
  ·rw [cond_f h1] at h; cases h
  ·rw [cond_t h1] at h
   rw [cond_t rfl]
   exact sub_trans (hk.sub _ h) (hr.sub x h1)
 neat x hc h := by
  unfold next at *
  cases h1 : (r x).2
  ·rw [cond_f h1] at h; cases h
  ·rw [cond_t h1] at h
   rw [cond_t rfl]
   exact hk.neat _ (hr.neat x hc h1) h
theorem step_end : Step fun x => (x, true) where
 keeps _ _ _ h := ⟨rfl, h⟩
 sub _ _ := sub_self _
 neat _ hc _ := hc
def normC : Sc → Sc × Bool := next rule1 (next rule2 (next rule3 (next rule4 (next rule5 (next rule1 (next rule2 (next rule3 (next rule4 (next rule5 fun x => (x, true))))))))))
theorem cond_nn {α : Type} (c : Bool) (a b : α) : (bif (!c) then a else b) = bif c then b else a := by cases c <;> rfl
theorem norm_is (x : Sc) : scalar_Norm x = normC x := by
 unfold scalar_Norm normC next
 simp only [cond_nn]
theorem step_norm : Step scalar_Norm := by
 rw [show scalar_Norm = normC from funext norm_is]
 exact step_next step1 (step_next step2 (step_next step3 (step_next step4 (step_next step5 (step_next step1 (step_next step2 (step_next step3 (step_next step4 (step_next step5 step_end)))))))))
theorem next_no {r k : Sc → Sc × Bool} (hk : ∀ x, (k x).2 = false → (k x).1 = scalar_All) (x : Sc) (h : (next r k x).2 = false) : (next r k x).1 = scalar_All := by
 unfold next at *
 cases h1 : (r x).2
 ·rw [cond_f rfl]
 ·rw [cond_t h1] at h
  rw [cond_t rfl]
  exact hk _ h
theorem norm_no {x : Sc} (h : (scalar_Norm x).2 = false) : (scalar_Norm x).1 = scalar_All := by
 rw [norm_is] at *
 unfold normC at *
 iterate 10 refine next_no ?_ _ h <;> clear h <;> intro x h
 cases h
theorem norm_in {x : Sc} {v : BitVec 64} (hc : clean x.t) (h : scalar_In x v = true) : (scalar_Norm x).2 = true ∧ scalar_In (scalar_Norm x).1 v = true := step_norm.keeps x v hc h
theorem norm_eq {x : Sc} {v : BitVec 64} (hc : clean x.t) (h : (scalar_Norm x).2 = true) : scalar_In (scalar_Norm x).1 v = scalar_In x v := by
 cases k : scalar_In x v
 ·cases q : scalar_In (scalar_Norm x).1 v
  ·rfl
  ·rw [has_sub (step_norm.sub x h) q] at k; cases k
 ·exact (norm_in hc k).2
theorem norm_none {x : Sc} {v : BitVec 64} (hc : clean x.t) (h : (scalar_Norm x).2 = false) : scalar_In x v = false := by
 cases k : scalar_In x v
 ·rfl
 ·rw [(norm_in hc k).1] at h; cases h
theorem set_in {x : Sc} {v : BitVec 64} (hc : clean x.t) (h : scalar_In x v = true) : scalar_In (scalar_Norm x).1 v = true := (norm_in hc h).2
end Go.Proofs.YtmcapfbkedfdkaaGreatDoor.Sp
