/-
  Plain facts: two numbers of which a comparison holds, or not, are in what Branch makes of scalars that have them. No program is looked at here.
-/
import Derived.Deep.DeepCutAuto
import Derived.Test.YtmcapfbkedfdkaaGreatDoorScI
import Derived.Test.YtmcapfbkedfdkaaGreatDoorScN
import Derived.Test.YtmcapfbkedfdkaaGreatDoorScQ
namespace Go.Proofs.YtmcapfbkedfdkaaGreatDoor.Sp
open Go.RowKit Go.Proofs.YtmcapfbkedfdkaaGreatDoor.Num Go.Proofs.YtmcapfbkedfdkaaGreatDoor.Up Go.Proofs.YtmcapfbkedfdkaaGreatDoor.Tn
theorem ord_in {a b : P} {v w g : BitVec 64} (hv : inS a v) (hw : inS b w) (hg : tn g ≤ 1) (h : tn v + tn g ≤ tn w) :
  (scalar_ordered_uint64 a b g).2.2 = true ∧ inS (scalar_ordered_uint64 a b g).1 v ∧ inS (scalar_ordered_uint64 a b g).2.1 w := by
 obtain ⟨v0, v1⟩ := hv
 obtain ⟨w0, w1⟩ := hw
 have g0 := tn_lo g; have a0 := tn_lo a.lo; have b1 := tn_hi64 b.hi; have z0 := tn_lo v
 have m1 := min_le a.hi (b.hi - g)
 have m2 := max_ge b.lo (a.lo + g)
 rw [tn_sub] at m1
 rw [tn_add] at m2
 have k : inS (P.mk a.lo (minU a.hi (b.hi - g))) v ∧ inS (P.mk (maxU b.lo (a.lo + g)) b.hi) w := by
  refine ⟨⟨v0, ?_⟩, ?_, w1⟩
  ·show tn v ≤ tn (minU a.hi (b.hi - g))
   omega
  ·show tn (maxU b.lo (a.lo + g)) ≤ tn w
   omega
 unfold scalar_ordered_uint64
 rw [cond_f (show gtU a.lo b.hi = false from decide_eq_false (by omega))]
 cases e : a.lo == b.hi
 ·rw [cond_f rfl]
  exact ⟨rfl, k⟩
 ·rw [cond_t rfl, cond_f (show gtU g 0#64 = false from decide_eq_false (by
   have e := beq_iff_eq.1 e
   rw [e] at v0
   show ¬ tn g > tn 0#64
   rw [show tn 0#64 = 0 from rfl]
   omega))]
  exact ⟨rfl, k⟩
theorem ord_sub {a b : P} {g : BitVec 64} (h : (scalar_ordered_uint64 a b g).2.2 = true) :
  (tn a.lo ≤ tn (scalar_ordered_uint64 a b g).1.lo ∧ tn (scalar_ordered_uint64 a b g).1.hi ≤ tn a.hi) ∧ (tn b.lo ≤ tn (scalar_ordered_uint64 a b g).2.1.lo ∧ tn (scalar_ordered_uint64 a b g).2.1.hi ≤ tn b.hi) := by
 have m1 := min_le a.hi (b.hi - g)
 have m2 := max_ge b.lo (a.lo + g)
 unfold scalar_ordered_uint64 at *
 cases c : gtU a.lo b.hi
 ·rw [c, cond_f rfl] at h
  rw [cond_f rfl]
  cases e : a.lo == b.hi
  ·rw [cond_f rfl]
   exact ⟨⟨Int.le_refl _, m1.2.1⟩, m2.2.1, Int.le_refl _⟩
  ·rw [e, cond_t rfl] at h
   rw [cond_t rfl]
   cases d : gtU g 0#64
   ·rw [cond_f rfl]
    exact ⟨⟨Int.le_refl _, m1.2.1⟩, m2.2.1, Int.le_refl _⟩
   ·rw [d] at h; cases h
 ·rw [c] at h; cases h
theorem sord_in {a b : P} {v w g : BitVec 64} (hv : inZ a v) (hw : inZ b w) (hg : 0 ≤ ti g ∧ ti g ≤ 1) (h : ti v + ti g ≤ ti w) :
  (scalar_ordered_int64 a b g).2.2 = true ∧ inZ (scalar_ordered_int64 a b g).1 v ∧ inZ (scalar_ordered_int64 a b g).2.1 w := by
 obtain ⟨v0, v1⟩ := hv
 obtain ⟨w0, w1⟩ := hw
 have a0 := ti_bd a.lo; have b1 := ti_bd b.hi; have z0 := ti_bd v; have z1 := ti_bd w
 have m1 := smin_is a.hi (b.hi - g)
 have m2 := smax_ge b.lo (a.lo + g)
 rw [ti_sub] at m1
 rw [ti_add] at m2
 have k : inZ (P.mk a.lo (minI a.hi (b.hi - g))) v ∧ inZ (P.mk (maxI b.lo (a.lo + g)) b.hi) w := by
  refine ⟨⟨v0, ?_⟩, ?_, w1⟩
  ·show ti v ≤ ti (minI a.hi (b.hi - g))
   omega
  ·show ti (maxI b.lo (a.lo + g)) ≤ ti w
   omega
 unfold scalar_ordered_int64
 rw [cond_f (show gtI a.lo b.hi = false from decide_eq_false (by omega))]
 cases e : a.lo == b.hi
 ·rw [cond_f rfl]
  exact ⟨rfl, k⟩
 ·rw [cond_t rfl, cond_f (show gtI g 0#64 = false from decide_eq_false (by
   have e := beq_iff_eq.1 e
   rw [e] at v0
   show ¬ ti g > ti 0#64
   rw [m0]
   omega))]
  exact ⟨rfl, k⟩
theorem sord_sub {a b : P} {g : BitVec 64} (h : (scalar_ordered_int64 a b g).2.2 = true) :
  (ti a.lo ≤ ti (scalar_ordered_int64 a b g).1.lo ∧ ti (scalar_ordered_int64 a b g).1.hi ≤ ti a.hi) ∧ (ti b.lo ≤ ti (scalar_ordered_int64 a b g).2.1.lo ∧ ti (scalar_ordered_int64 a b g).2.1.hi ≤ ti b.hi) := by
 have m1 := smin_le a.hi (b.hi - g)
 have m2 := smax_ge b.lo (a.lo + g)
 unfold scalar_ordered_int64 at *
 cases c : gtI a.lo b.hi
 ·rw [c, cond_f rfl] at h
  rw [cond_f rfl]
  cases e : a.lo == b.hi
  ·rw [cond_f rfl]
   exact ⟨⟨Int.le_refl _, m1.1⟩, m2.2.1, Int.le_refl _⟩
  ·rw [e, cond_t rfl] at h
   rw [cond_t rfl]
   cases d : gtI g 0#64
   ·rw [cond_f rfl]
    exact ⟨⟨Int.le_refl _, m1.1⟩, m2.2.1, Int.le_refl _⟩
   ·rw [d] at h; cases h
 ·rw [c] at h; cases h
theorem eqP_iff {a b : P} : eqP a b = true ↔ a.lo = b.lo ∧ a.hi = b.hi := by unfold eqP; simp
theorem eqS_iff {a b : P} : eqS a b = true ↔ a.lo = b.lo ∧ a.hi = b.hi := by unfold eqS; simp
theorem tn_ne {x y : BitVec 64} (h : (x == y) = false) : tn x ≠ tn y := fun e => by rw [tn_inj e] at h; simp at h
theorem ti_ne {x y : BitVec 64} (h : (x == y) = false) : ti x ≠ ti y := fun e => by rw [ti_inj e] at h; simp at h
theorem tn_one : tn 1#64 = 1 := rfl
theorem ti_one : ti 1#64 = 1 := by decide
theorem apart_in {a b : P} {v w : BitVec 64} (hv : inS a v) (hw : inS b w) (h : v ≠ w) :
  (scalar_apart_uint64 a b).2 = true ∧ inS (scalar_apart_uint64 a b).1 v := by
 obtain ⟨v0, v1⟩ := hv
 obtain ⟨w0, w1⟩ := hw
 have h' : tn v ≠ tn w := fun e => h (tn_inj e)
 have a0 := tn_lo a.lo; have a1 := tn_hi64 a.hi; have z0 := tn_lo v; have z1 := tn_hi64 v
 unfold scalar_apart_uint64
 cases c : b.lo != b.hi
 ·rw [cond_f rfl]
  have c' : b.lo = b.hi := by simpa using c
  rw [← c'] at w1
  cases e : eqP a b
  ·rw [cond_f rfl]
   cases f : a.lo == b.lo <;> cases g : a.hi == b.lo <;> simp only [cond_true, cond_false] <;> refine ⟨trivial, ?_, ?_⟩ <;> (try simp only) <;> (try have f' := congrArg tn (beq_iff_eq.1 f)) <;> (try have g' := congrArg tn (beq_iff_eq.1 g)) <;> (try rw [tn_add, tn_one]) <;> (try rw [tn_sub, tn_one]) <;> omega
  ·obtain ⟨e1, e2⟩ := eqP_iff.1 e
   exfalso
   rw [e1] at v0; rw [e2, ← c'] at v1
   omega
 ·rw [cond_t rfl]
  exact ⟨rfl, v0, v1⟩
theorem apart_sub {a b : P} (hl : tn a.lo ≤ tn a.hi) (h : (scalar_apart_uint64 a b).2 = true) :
  (tn a.lo ≤ tn (scalar_apart_uint64 a b).1.lo ∧ tn (scalar_apart_uint64 a b).1.hi ≤ tn a.hi) := by
 have a0 := tn_lo a.lo; have a1 := tn_hi64 a.hi; have a2 := tn_lo a.hi; have a3 := tn_hi64 a.lo
 unfold scalar_apart_uint64 at *
 cases c : b.lo != b.hi
 ·rw [c, cond_f rfl] at h
  rw [cond_f rfl]
  have c' : b.lo = b.hi := by simpa using c
  cases e : eqP a b
  ·rw [cond_f rfl]
   have ne : ¬ (tn a.lo = tn b.lo ∧ tn a.hi = tn b.lo) := fun q => by
    rw [eqP_iff.2 ⟨tn_inj q.1, by rw [← c']; exact tn_inj q.2⟩] at e; cases e
   cases f : a.lo == b.lo <;> cases g : a.hi == b.lo <;> simp only [cond_true, cond_false] <;> refine ⟨?_, ?_⟩ <;> (try have f' := congrArg tn (beq_iff_eq.1 f)) <;> (try have g' := congrArg tn (beq_iff_eq.1 g)) <;> (try have f'' := tn_ne f) <;> (try have g'' := tn_ne g) <;> (try rw [tn_add, tn_one]) <;> (try rw [tn_sub, tn_one]) <;> omega
  ·rw [e] at h; cases h
 ·rw [cond_t rfl]
  exact ⟨Int.le_refl _, Int.le_refl _⟩
theorem sapart_in {a b : P} {v w : BitVec 64} (hv : inZ a v) (hw : inZ b w) (h : v ≠ w) :
  (scalar_apart_int64 a b).2 = true ∧ inZ (scalar_apart_int64 a b).1 v := by
 obtain ⟨v0, v1⟩ := hv
 obtain ⟨w0, w1⟩ := hw
 have h' : ti v ≠ ti w := fun e => h (ti_inj e)
 have a0 := ti_bd a.lo; have a1 := ti_bd a.hi; have z0 := ti_bd v
 unfold scalar_apart_int64
 cases c : b.lo != b.hi
 ·rw [cond_f rfl]
  have c' : b.lo = b.hi := by simpa using c
  rw [← c'] at w1
  cases e : eqS a b
  ·rw [cond_f rfl]
   cases f : a.lo == b.lo <;> cases g : a.hi == b.lo <;> simp only [cond_true, cond_false] <;> refine ⟨trivial, ?_, ?_⟩ <;> (try simp only) <;> (try have f' := congrArg ti (beq_iff_eq.1 f)) <;> (try have g' := congrArg ti (beq_iff_eq.1 g)) <;> (try rw [ti_add, ti_one]) <;> (try rw [ti_sub, ti_one]) <;> omega
  ·obtain ⟨e1, e2⟩ := eqS_iff.1 e
   exfalso
   rw [e1] at v0; rw [e2, ← c'] at v1
   omega
 ·rw [cond_t rfl]
  exact ⟨rfl, v0, v1⟩
theorem sapart_sub {a b : P} (hl : ti a.lo ≤ ti a.hi) (h : (scalar_apart_int64 a b).2 = true) :
  (ti a.lo ≤ ti (scalar_apart_int64 a b).1.lo ∧ ti (scalar_apart_int64 a b).1.hi ≤ ti a.hi) := by
 have a0 := ti_bd a.lo; have a1 := ti_bd a.hi
 unfold scalar_apart_int64 at *
 cases c : b.lo != b.hi
 ·rw [c, cond_f rfl] at h
  rw [cond_f rfl]
  have c' : b.lo = b.hi := by simpa using c
  cases e : eqS a b
  ·rw [cond_f rfl]
   have ne : ¬ (ti a.lo = ti b.lo ∧ ti a.hi = ti b.lo) := fun q => by
    rw [eqS_iff.2 ⟨ti_inj q.1, by rw [← c']; exact ti_inj q.2⟩] at e; cases e
   cases f : a.lo == b.lo <;> cases g : a.hi == b.lo <;> simp only [cond_true, cond_false] <;> refine ⟨?_, ?_⟩ <;> (try have f' := congrArg ti (beq_iff_eq.1 f)) <;> (try have g' := congrArg ti (beq_iff_eq.1 g)) <;> (try have f'' := ti_ne f) <;> (try have g'' := ti_ne g) <;> (try rw [ti_add, ti_one]) <;> (try rw [ti_sub, ti_one]) <;> omega
  ·rw [e] at h; cases h
 ·rw [cond_t rfl]
  exact ⟨Int.le_refl _, Int.le_refl _⟩
theorem both_t {a b : P} (h : (scalar_apart_uint64 a b).2 = true) : scalar_bothApart_uint64 a b = ((scalar_apart_uint64 a b).1, (scalar_apart_uint64 b (scalar_apart_uint64 a b).1).1, (scalar_apart_uint64 b (scalar_apart_uint64 a b).1).2) := by
 unfold scalar_bothApart_uint64
 rw [h]; rfl
theorem sboth_t {a b : P} (h : (scalar_apart_int64 a b).2 = true) : scalar_bothApart_int64 a b = ((scalar_apart_int64 a b).1, (scalar_apart_int64 b (scalar_apart_int64 a b).1).1, (scalar_apart_int64 b (scalar_apart_int64 a b).1).2) := by
 unfold scalar_bothApart_int64
 rw [h]; rfl
theorem bothA_in {a b : P} {v w : BitVec 64} (hv : inS a v) (hw : inS b w) (h : v ≠ w) :
  (scalar_bothApart_uint64 a b).2.2 = true ∧ inS (scalar_bothApart_uint64 a b).1 v ∧ inS (scalar_bothApart_uint64 a b).2.1 w := by
 obtain ⟨h1, h2⟩ := apart_in hv hw h
 rw [both_t h1]
 obtain ⟨h3, h4⟩ := apart_in hw h2 (Ne.symm h)
 exact ⟨h3, h2, h4⟩
theorem sbothA_in {a b : P} {v w : BitVec 64} (hv : inZ a v) (hw : inZ b w) (h : v ≠ w) :
  (scalar_bothApart_int64 a b).2.2 = true ∧ inZ (scalar_bothApart_int64 a b).1 v ∧ inZ (scalar_bothApart_int64 a b).2.1 w := by
 obtain ⟨h1, h2⟩ := sapart_in hv hw h
 rw [sboth_t h1]
 obtain ⟨h3, h4⟩ := sapart_in hw h2 (Ne.symm h)
 exact ⟨h3, h2, h4⟩
theorem bothA_sub {a b : P} (ha : tn a.lo ≤ tn a.hi) (hb : tn b.lo ≤ tn b.hi) (h : (scalar_bothApart_uint64 a b).2.2 = true) :
  (tn a.lo ≤ tn (scalar_bothApart_uint64 a b).1.lo ∧ tn (scalar_bothApart_uint64 a b).1.hi ≤ tn a.hi) ∧ (tn b.lo ≤ tn (scalar_bothApart_uint64 a b).2.1.lo ∧ tn (scalar_bothApart_uint64 a b).2.1.hi ≤ tn b.hi) := by
 cases c : (scalar_apart_uint64 a b).2
 ·unfold scalar_bothApart_uint64 at h
  rw [c] at h; cases h
 ·rw [both_t c] at *
  exact ⟨apart_sub ha c, apart_sub hb h⟩
theorem sbothA_sub {a b : P} (ha : ti a.lo ≤ ti a.hi) (hb : ti b.lo ≤ ti b.hi) (h : (scalar_bothApart_int64 a b).2.2 = true) :
  (ti a.lo ≤ ti (scalar_bothApart_int64 a b).1.lo ∧ ti (scalar_bothApart_int64 a b).1.hi ≤ ti a.hi) ∧ (ti b.lo ≤ ti (scalar_bothApart_int64 a b).2.1.lo ∧ ti (scalar_bothApart_int64 a b).2.1.hi ≤ ti b.hi) := by
 cases c : (scalar_apart_int64 a b).2
 ·unfold scalar_bothApart_int64 at h
  rw [c] at h; cases h
 ·rw [sboth_t c] at *
  exact ⟨sapart_sub ha c, sapart_sub hb h⟩
theorem meet_r {a b : P} (h : (span_meet_uint64 a b).2 = true) : tn b.lo ≤ tn (span_meet_uint64 a b).1.lo ∧ tn (span_meet_uint64 a b).1.hi ≤ tn b.hi := by
 unfold span_meet_uint64 at *
 cases c : gtU (maxU a.lo b.lo) (minU a.hi b.hi)
 ·rw [cond_f rfl]
  have := max_ge a.lo b.lo
  have := min_le a.hi b.hi
  simp only
  omega
 ·rw [c, cond_t rfl] at h
  cases h
theorem smeet_r {a b : P} (h : (span_meet_int64 a b).2 = true) : ti b.lo ≤ ti (span_meet_int64 a b).1.lo ∧ ti (span_meet_int64 a b).1.hi ≤ ti b.hi := by
 unfold span_meet_int64 at *
 cases c : gtI (maxI a.lo b.lo) (minI a.hi b.hi)
 ·rw [cond_f rfl]
  have := smax_ge a.lo b.lo
  have := smin_le a.hi b.hi
  simp only
  omega
 ·rw [c, cond_t rfl] at h
  cases h
structure Has2 (r : Sc × Sc × Bool) (v w : BitVec 64) : Prop where
 may : r.2.2 = true
 fst : scalar_In r.1 v = true
 snd : scalar_In r.2.1 w = true
structure Sub2 (r : Sc × Sc × Bool) (a b : Sc) : Prop where
 fst : scalar_Within r.1 a = true
 snd : scalar_Within r.2.1 b = true
 c1 : clean r.1.t
 c2 : clean r.2.1.t
theorem valid_u {a : Sc} {v : BitVec 64} (h : scalar_In a v = true) : tn a.u.lo ≤ tn a.u.hi ∧ ti a.s.lo ≤ ti a.s.hi := by
 obtain ⟨_, ⟨h1, h2⟩, h3, h4⟩ := in3.1 h
 omega
theorem same_has {a b : Sc} {v : BitVec 64} (ha : scalar_In a v = true) (hb : scalar_In b v = true) : Has2 (scalar_same a b) v v := by
 obtain ⟨a1, a2, a3⟩ := in3.1 ha
 obtain ⟨b1, b2, b3⟩ := in3.1 hb
 obtain ⟨t1, t2⟩ := tnMeet_in a1 b1
 obtain ⟨u1, u2⟩ := meet_in' a2 b2
 obtain ⟨s1, s2⟩ := smeet_in' a3 b3
 unfold scalar_same
 rw [cond_t t1, cond_t u1]
 exact ⟨s1, in3.2 ⟨t2, u2, s2⟩, in3.2 ⟨t2, u2, s2⟩⟩
theorem same_sub {a b : Sc} (h : (scalar_same a b).2.2 = true) : Sub2 (scalar_same a b) a b := by
 unfold scalar_same at *
 cases t1 : (tnMeet a.t b.t).2
 ·rw [t1] at h; cases h
 ·rw [t1, cond_t rfl] at h
  rw [cond_t rfl]
  cases u1 : (span_meet_uint64 a.u b.u).2
  ·rw [u1] at h; cases h
  ·rw [u1, cond_t rfl] at h
   rw [cond_t rfl]
   exact ⟨within3.2 ⟨tnMeet_l t1, meet_l u1, smeet_l h⟩, within3.2 ⟨tnMeet_r t1, meet_r u1, smeet_r h⟩, tnMeet_clean t1, tnMeet_clean t1⟩
theorem differ_has {a b : Sc} {v w : BitVec 64} (ha : scalar_In a v = true) (hb : scalar_In b w = true) (h : v ≠ w) : Has2 (scalar_differ a b) v w := by
 obtain ⟨a1, a2, a3⟩ := in3.1 ha
 obtain ⟨b1, b2, b3⟩ := in3.1 hb
 obtain ⟨u1, u2, u3⟩ := bothA_in a2 b2 h
 obtain ⟨s1, s2, s3⟩ := sbothA_in a3 b3 h
 unfold scalar_differ
 rw [cond_t u1]
 exact ⟨s1, in3.2 ⟨a1, u2, s2⟩, in3.2 ⟨b1, u3, s3⟩⟩
theorem differ_sub {a b : Sc} {v w : BitVec 64} (ca : clean a.t) (cb : clean b.t) (ha : scalar_In a v = true) (hb : scalar_In b w = true) (h : (scalar_differ a b).2.2 = true) : Sub2 (scalar_differ a b) a b := by
 obtain ⟨a1, a2⟩ := valid_u ha
 obtain ⟨b1, b2⟩ := valid_u hb
 unfold scalar_differ at *
 cases u1 : (scalar_bothApart_uint64 a.u b.u).2.2
 ·rw [u1] at h; cases h
 ·rw [u1, cond_t rfl] at h
  rw [cond_t rfl]
  obtain ⟨p1, p2⟩ := bothA_sub a1 b1 u1
  obtain ⟨q1, q2⟩ := sbothA_sub a2 b2 h
  exact ⟨within3.2 ⟨tnWithin_self _, p1, q1⟩, within3.2 ⟨tnWithin_self _, p2, q2⟩, ca, cb⟩
theorem less_has {a b : Sc} {v w g : BitVec 64} (ha : scalar_In a v = true) (hb : scalar_In b w = true) (hg : tn g ≤ 1) (h : tn v + tn g ≤ tn w) : Has2 (scalar_less a b g) v w := by
 obtain ⟨a1, a2, a3⟩ := in3.1 ha
 obtain ⟨b1, b2, b3⟩ := in3.1 hb
 obtain ⟨u1, u2, u3⟩ := ord_in a2 b2 hg h
 exact ⟨u1, in3.2 ⟨a1, u2, a3⟩, in3.2 ⟨b1, u3, b3⟩⟩
theorem less_sub {a b : Sc} {g : BitVec 64} (ca : clean a.t) (cb : clean b.t) (h : (scalar_less a b g).2.2 = true) : Sub2 (scalar_less a b g) a b := by
 obtain ⟨p1, p2⟩ := ord_sub (show (scalar_ordered_uint64 a.u b.u g).2.2 = true from h)
 exact ⟨within3.2 ⟨tnWithin_self _, p1, Int.le_refl _, Int.le_refl _⟩, within3.2 ⟨tnWithin_self _, p2, Int.le_refl _, Int.le_refl _⟩, ca, cb⟩
theorem sless_has {a b : Sc} {v w g : BitVec 64} (ha : scalar_In a v = true) (hb : scalar_In b w = true) (hg : 0 ≤ ti g ∧ ti g ≤ 1) (h : ti v + ti g ≤ ti w) : Has2 (scalar_signedLess a b g) v w := by
 obtain ⟨a1, a2, a3⟩ := in3.1 ha
 obtain ⟨b1, b2, b3⟩ := in3.1 hb
 obtain ⟨u1, u2, u3⟩ := sord_in a3 b3 hg h
 exact ⟨u1, in3.2 ⟨a1, a2, u2⟩, in3.2 ⟨b1, b2, u3⟩⟩
theorem sless_sub {a b : Sc} {g : BitVec 64} (ca : clean a.t) (cb : clean b.t) (h : (scalar_signedLess a b g).2.2 = true) : Sub2 (scalar_signedLess a b g) a b := by
 obtain ⟨p1, p2⟩ := sord_sub (show (scalar_ordered_int64 a.s b.s g).2.2 = true from h)
 exact ⟨within3.2 ⟨tnWithin_self _, ⟨Int.le_refl _, Int.le_refl _⟩, p1⟩, within3.2 ⟨tnWithin_self _, ⟨Int.le_refl _, Int.le_refl _⟩, p2⟩, ca, cb⟩
theorem common_has {a b : Sc} {v w : BitVec 64} (taken : Bool) (ha : scalar_In a v = true) (hb : scalar_In b w = true) (h : (!(v &&& w == 0#64)) = taken) : Has2 (scalar_common a b taken) v w := by
 obtain ⟨a1, a2, a3⟩ := in3.1 ha
 obtain ⟨b1, b2, b3⟩ := in3.1 hb
 unfold scalar_common
 cases taken
 ·rw [cond_f rfl]
  cases k : single1 b
  ·rw [cond_f rfl]
   exact ⟨rfl, ha, hb⟩
  ·rw [cond_t rfl]
   have e := single1_val hb k
   have hz : v &&& w = 0#64 := by simpa using h
   rw [e] at hz
   have hn : tnIn (P.mk 0#64 (~~~b.t.lo)) v = true := by
    unfold tnIn
    rw [in_iff]
    intro i hi
    have q := congrArg (fun x => x.getLsbD i) hz
    simp only [BitVec.getLsbD_and, BitVec.getLsbD_zero] at q
    show wb (v.getLsbD i) false ((0#64).getLsbD i) ((~~~b.t.lo).getLsbD i) = false
    rw [BitVec.getLsbD_not, BitVec.getLsbD_zero]
    simp only [hi, decide_true, Bool.true_and]
    revert q
    generalize v.getLsbD i = p; generalize b.t.lo.getLsbD i = r
    revert p r; decide
   obtain ⟨t1, t2⟩ := tnMeet_in a1 hn
   exact ⟨t1, in3.2 ⟨t2, a2, a3⟩, hb⟩
 ·rw [cond_t rfl]
  refine ⟨?_, ha, hb⟩
  show (!(eqP (tnAnd a.t b.t) (P.mk 0#64 0#64))) = true
  cases k : eqP (tnAnd a.t b.t) (P.mk 0#64 0#64)
  ·rfl
  ·exfalso
   obtain ⟨k1, k2⟩ := eqP_iff.1 k
   have q := one_val (tnAnd_in a1 b1) (by rw [k2]; rfl)
   rw [k1] at q
   have q' : (v &&& w == 0#64) = true := beq_iff_eq.2 q
   rw [q'] at h
   cases h
theorem common_sub {a b : Sc} {taken : Bool} (ca : clean a.t) (cb : clean b.t) (h : (scalar_common a b taken).2.2 = true) : Sub2 (scalar_common a b taken) a b := by
 unfold scalar_common at *
 cases taken
 ·rw [cond_f rfl] at *
  cases k : single1 b
  ·rw [cond_f rfl]
   exact ⟨sub_self _, sub_self _, ca, cb⟩
  ·rw [k, cond_t rfl] at h
   rw [cond_t rfl]
   exact ⟨within3.2 ⟨tnMeet_l h, ⟨Int.le_refl _, Int.le_refl _⟩, Int.le_refl _, Int.le_refl _⟩, sub_self _, tnMeet_clean h, cb⟩
 ·rw [cond_t rfl]
  exact ⟨sub_self _, sub_self _, ca, cb⟩
theorem jis_cases {op : BitVec 64} (h : jmpIs (ti op) = true) : op = 16#64 ∨ op = 32#64 ∨ op = 48#64 ∨ op = 64#64 ∨ op = 80#64 ∨ op = 96#64 ∨ op = 112#64 ∨ op = 160#64 ∨ op = 176#64 ∨ op = 192#64 ∨ op = 208#64 := by
 unfold jmpIs at h
 simp only [Bool.or_eq_true, beq_iff_eq] at h
 have e : ∀ k : BitVec 64, ti op = ti k → op = k := fun _ q => ti_inj q
 rcases h with (((((((((h | h) | h) | h) | h) | h) | h) | h) | h) | h) | h
 ·exact .inl (e 16#64 (h.trans (by decide)))
 ·exact .inr (.inl (e 32#64 (h.trans (by decide))))
 ·exact .inr (.inr (.inl (e 48#64 (h.trans (by decide)))))
 ·exact .inr (.inr (.inr (.inl (e 64#64 (h.trans (by decide))))))
 ·exact .inr (.inr (.inr (.inr (.inl (e 80#64 (h.trans (by decide)))))))
 ·exact .inr (.inr (.inr (.inr (.inr (.inl (e 96#64 (h.trans (by decide))))))))
 ·exact .inr (.inr (.inr (.inr (.inr (.inr (.inl (e 112#64 (h.trans (by decide)))))))))
 ·exact .inr (.inr (.inr (.inr (.inr (.inr (.inr (.inl (e 160#64 (h.trans (by decide))))))))))
 ·exact .inr (.inr (.inr (.inr (.inr (.inr (.inr (.inr (.inl (e 176#64 (h.trans (by decide)))))))))))
 ·exact .inr (.inr (.inr (.inr (.inr (.inr (.inr (.inr (.inr (.inl (e 192#64 (h.trans (by decide))))))))))))
 ·exact .inr (.inr (.inr (.inr (.inr (.inr (.inr (.inr (.inr (.inr (e 208#64 (h.trans (by decide))))))))))))
def bnd (op : BitVec 64) (a b : Sc) : Sc × Sc × Bool :=
 bif op == 16#64 then scalar_same a b else bif op == 80#64 then scalar_differ a b
 else bif op == 32#64 then ((scalar_less b a 1#64).2.1, (scalar_less b a 1#64).1, (scalar_less b a 1#64).2.2)
 else bif op == 48#64 then ((scalar_less b a 0#64).2.1, (scalar_less b a 0#64).1, (scalar_less b a 0#64).2.2)
 else bif op == 96#64 then ((scalar_signedLess b a 1#64).2.1, (scalar_signedLess b a 1#64).1, (scalar_signedLess b a 1#64).2.2)
 else bif op == 112#64 then ((scalar_signedLess b a 0#64).2.1, (scalar_signedLess b a 0#64).1, (scalar_signedLess b a 0#64).2.2)
 else bif op == 160#64 then scalar_less a b 1#64 else bif op == 176#64 then scalar_less a b 0#64 else bif op == 192#64 then scalar_signedLess a b 1#64 else scalar_signedLess a b 0#64
theorem bounded_is (op : BitVec 64) (a b : Sc) (taken : Bool) (h : jmpIs (ti op) = true) : scalar_bounded op a b taken = bif op == 64#64 then scalar_common a b taken else bnd (bif taken then op else partner5 op) a b := by
 unfold scalar_bounded bnd scalar_ranked partner5 partner4
 rcases jis_cases h with rfl | rfl | rfl | rfl | rfl | rfl | rfl | rfl | rfl | rfl | rfl <;> cases taken <;> simp only [BitVec.reduceBEq, cond_true, cond_false, Bool.not_true, Bool.not_false]
theorem swap_has {r : Sc × Sc × Bool} {v w : BitVec 64} (h : Has2 r v w) : Has2 (r.2.1, r.1, r.2.2) w v := ⟨h.may, h.snd, h.fst⟩
theorem swap_sub {r : Sc × Sc × Bool} {a b : Sc} (h : Sub2 r a b) : Sub2 (r.2.1, r.1, r.2.2) b a := ⟨h.snd, h.fst, h.c2, h.c1⟩
theorem bnd_has {op : BitVec 64} (ho : jmpIs (ti op) = true) (h64 : op ≠ 64#64) {a b : Sc} {v w : BitVec 64} (ha : scalar_In a v = true) (hb : scalar_In b w = true) (hj : jmpR op true v w = true) : Has2 (bnd op a b) v w := by
 have g0 : tn 0#64 = 0 := rfl
 rcases jis_cases ho with rfl | rfl | rfl | rfl | rfl | rfl | rfl | rfl | rfl | rfl | rfl
 ·have e : v = w := of_decide_eq_true (show decide (v = w) = true from hj)
  subst e
  exact same_has ha hb
 ·have e : w.toNat < v.toNat := of_decide_eq_true (show decide (w.toNat < v.toNat) = true from hj)
  exact swap_has (r := scalar_less b a 1#64) (less_has hb ha (by decide) (by rw [tn_one]; unfold tn; omega))
 ·have e : w.toNat ≤ v.toNat := of_decide_eq_true (show decide (w.toNat ≤ v.toNat) = true from hj)
  exact swap_has (r := scalar_less b a 0#64) (less_has hb ha (by decide) (by rw [g0]; unfold tn; omega))
 ·exact absurd rfl h64
 ·have e : v ≠ w := of_decide_eq_true (show decide (v ≠ w) = true from hj)
  exact differ_has ha hb e
 ·have e : ti w < ti v := of_decide_eq_true (show decide (w.toInt < v.toInt) = true from hj)
  exact swap_has (r := scalar_signedLess b a 1#64) (sless_has hb ha (by decide) (by rw [ti_one]; omega))
 ·have e : ti w ≤ ti v := of_decide_eq_true (show decide (w.toInt ≤ v.toInt) = true from hj)
  exact swap_has (r := scalar_signedLess b a 0#64) (sless_has hb ha (by decide) (by rw [m0]; omega))
 ·have e : v.toNat < w.toNat := of_decide_eq_true (show decide (v.toNat < w.toNat) = true from hj)
  exact less_has ha hb (by decide) (by rw [tn_one]; unfold tn; omega)
 ·have e : v.toNat ≤ w.toNat := of_decide_eq_true (show decide (v.toNat ≤ w.toNat) = true from hj)
  exact less_has ha hb (by decide) (by rw [g0]; unfold tn; omega)
 ·have e : ti v < ti w := of_decide_eq_true (show decide (v.toInt < w.toInt) = true from hj)
  exact sless_has ha hb (by decide) (by rw [ti_one]; omega)
 ·have e : ti v ≤ ti w := of_decide_eq_true (show decide (v.toInt ≤ w.toInt) = true from hj)
  exact sless_has ha hb (by decide) (by rw [m0]; omega)
theorem bnd_sub {op : BitVec 64} {a b : Sc} {v w : BitVec 64} (ca : clean a.t) (cb : clean b.t) (ha : scalar_In a v = true) (hb : scalar_In b w = true) (h : (bnd op a b).2.2 = true) : Sub2 (bnd op a b) a b := by
 unfold bnd at *
 cases e1 : op == 16#64
 ·rw [e1, cond_f rfl] at h; rw [cond_f rfl]
  cases e2 : op == 80#64
  ·rw [e2, cond_f rfl] at h; rw [cond_f rfl]
   cases e3 : op == 32#64
   ·rw [e3, cond_f rfl] at h; rw [cond_f rfl]
    cases e4 : op == 48#64
    ·rw [e4, cond_f rfl] at h; rw [cond_f rfl]
     cases e5 : op == 96#64
     ·rw [e5, cond_f rfl] at h; rw [cond_f rfl]
      cases e6 : op == 112#64
      ·rw [e6, cond_f rfl] at h; rw [cond_f rfl]
       cases e7 : op == 160#64
       ·rw [e7, cond_f rfl] at h; rw [cond_f rfl]
        cases e8 : op == 176#64
        ·rw [e8, cond_f rfl] at h; rw [cond_f rfl]
         cases e9 : op == 192#64
         ·rw [e9, cond_f rfl] at h; rw [cond_f rfl]
          exact sless_sub ca cb h
         ·rw [e9, cond_t rfl] at h; rw [cond_t rfl]
          exact sless_sub ca cb h
        ·rw [e8, cond_t rfl] at h; rw [cond_t rfl]
         exact less_sub ca cb h
       ·rw [e7, cond_t rfl] at h; rw [cond_t rfl]
        exact less_sub ca cb h
      ·rw [e6, cond_t rfl] at h; rw [cond_t rfl]
       exact swap_sub (r := scalar_signedLess b a 0#64) (sless_sub cb ca h)
     ·rw [e5, cond_t rfl] at h; rw [cond_t rfl]
      exact swap_sub (r := scalar_signedLess b a 1#64) (sless_sub cb ca h)
    ·rw [e4, cond_t rfl] at h; rw [cond_t rfl]
     exact swap_sub (r := scalar_less b a 0#64) (less_sub cb ca h)
   ·rw [e3, cond_t rfl] at h; rw [cond_t rfl]
    exact swap_sub (r := scalar_less b a 1#64) (less_sub cb ca h)
  ·rw [e2, cond_t rfl] at h; rw [cond_t rfl]
   exact differ_sub ca cb ha hb h
 ·rw [e1, cond_t rfl] at h; rw [cond_t rfl]
  exact same_sub h
theorem other_is {op : BitVec 64} (ho : jmpIs (ti op) = true) (h64 : op ≠ 64#64) : jmpIs (ti (partner5 op)) = true ∧ partner5 op ≠ 64#64 ∧ ∀ v w : BitVec 64, jmpR (partner5 op) true v w = !jmpR op true v w := by
 rcases jis_cases ho with rfl | rfl | rfl | rfl | rfl | rfl | rfl | rfl | rfl | rfl | rfl
 ·refine ⟨rfl, by decide, fun v w => ?_⟩
  show decide (v ≠ w) = !decide (v = w)
  exact decide_not
 ·refine ⟨rfl, by decide, fun v w => ?_⟩
  show decide (v.toNat ≤ w.toNat) = !decide (w.toNat < v.toNat)
  exact dec_not (by omega)
 ·refine ⟨rfl, by decide, fun v w => ?_⟩
  show decide (v.toNat < w.toNat) = !decide (w.toNat ≤ v.toNat)
  exact dec_not (by omega)
 ·exact absurd rfl h64
 ·refine ⟨rfl, by decide, fun v w => ?_⟩
  show decide (v = w) = !decide (v ≠ w)
  exact dec_not (by simp)
 ·refine ⟨rfl, by decide, fun v w => ?_⟩
  show decide (v.toInt ≤ w.toInt) = !decide (w.toInt < v.toInt)
  exact dec_not (by omega)
 ·refine ⟨rfl, by decide, fun v w => ?_⟩
  show decide (v.toInt < w.toInt) = !decide (w.toInt ≤ v.toInt)
  exact dec_not (by omega)
 ·refine ⟨rfl, by decide, fun v w => ?_⟩
  show decide (w.toNat ≤ v.toNat) = !decide (v.toNat < w.toNat)
  exact dec_not (by omega)
 ·refine ⟨rfl, by decide, fun v w => ?_⟩
  show decide (w.toNat < v.toNat) = !decide (v.toNat ≤ w.toNat)
  exact dec_not (by omega)
 ·refine ⟨rfl, by decide, fun v w => ?_⟩
  show decide (w.toInt ≤ v.toInt) = !decide (v.toInt < w.toInt)
  exact dec_not (by omega)
 ·refine ⟨rfl, by decide, fun v w => ?_⟩
  show decide (w.toInt < v.toInt) = !decide (v.toInt ≤ w.toInt)
  exact dec_not (by omega)
theorem bounded_has {op : BitVec 64} {taken : Bool} (ho : jmpIs (ti op) = true) {a b : Sc} {v w : BitVec 64} (ha : scalar_In a v = true) (hb : scalar_In b w = true) (hj : jmpR op true v w = taken) : Has2 (scalar_bounded op a b taken) v w := by
 rw [bounded_is op a b taken ho]
 cases e : op == 64#64
 ·rw [cond_f rfl]
  have ne : op ≠ 64#64 := by simpa using e
  cases taken
  ·rw [cond_f rfl]
   obtain ⟨h1, h2, h3⟩ := other_is ho ne
   exact bnd_has h1 h2 ha hb (by rw [h3, hj]; rfl)
  ·rw [cond_t rfl]
   exact bnd_has ho ne ha hb hj
 ·rw [cond_t rfl]
  refine common_has taken ha hb ?_
  rw [beq_iff_eq.1 e] at hj
  rw [← hj]
  show (!(v &&& w == 0#64)) = decide (v &&& w ≠ 0)
  cases q : v &&& w == 0#64
  ·exact (decide_eq_true (by simpa using q)).symm
  ·exact (decide_eq_false (by simpa using q)).symm
theorem bounded_sub {op : BitVec 64} {taken : Bool} (ho : jmpIs (ti op) = true) {a b : Sc} {v w : BitVec 64} (ca : clean a.t) (cb : clean b.t) (ha : scalar_In a v = true) (hb : scalar_In b w = true) (h : (scalar_bounded op a b taken).2.2 = true) : Sub2 (scalar_bounded op a b taken) a b := by
 rw [bounded_is op a b taken ho] at *
 cases e : op == 64#64
 ·rw [e, cond_f rfl] at h
  rw [cond_f rfl]
  exact bnd_sub ca cb ha hb h
 ·rw [e, cond_t rfl] at h
  rw [cond_t rfl]
  exact common_sub ca cb h
theorem short_sg {op a b : BitVec 64} (hs : op = 96#64 ∨ op = 112#64 ∨ op = 192#64 ∨ op = 208#64) (h : scalar_short op a b = true) : ltU (maxU a b) 2147483648#64 = true := by
 unfold scalar_short at h
 rcases hs with rfl | rfl | rfl | rfl
 ·rw [cond_t (show (96#64 == 96#64) = true from rfl)] at h; exact h
 ·rw [cond_f (show (112#64 == 96#64) = false from rfl), cond_t (show (112#64 == 112#64) = true from rfl)] at h; exact h
 ·rw [cond_f (show (192#64 == 96#64) = false from rfl), cond_f (show (192#64 == 112#64) = false from rfl), cond_t (show (192#64 == 192#64) = true from rfl)] at h; exact h
 ·rw [cond_f (show (208#64 == 96#64) = false from rfl), cond_f (show (208#64 == 112#64) = false from rfl), cond_f (show (208#64 == 192#64) = false from rfl), cond_t (show (208#64 == 208#64) = true from rfl)] at h; exact h
theorem short_pick : ∀ c1 c2 c3 c4 x y : Bool, (bif c1 then x else (bif c2 then x else (bif c3 then x else (bif c4 then x else y)))) = true → x = true ∨ y = true := by decide
theorem bd32 (m : BitVec 64) (h : ltU m 4294967296#64 = true) : tn m < 4294967296 := by
 have := of_decide_eq_true h
 rw [show tn 4294967296#64 = 4294967296 from rfl] at this
 exact this
theorem bd31 (m : BitVec 64) (h : ltU m 2147483648#64 = true) : tn m < 2147483648 := by
 have := of_decide_eq_true h
 rw [show tn 2147483648#64 = 2147483648 from rfl] at this
 exact this
theorem short_bd {op a b : BitVec 64} (h : scalar_short op a b = true) : tn (maxU a b) < 4294967296 := by
 unfold scalar_short at h
 rcases short_pick _ _ _ _ _ _ h with q | q
 ·have := bd31 _ q
  omega
 ·exact bd32 _ q
theorem short_is {op : BitVec 64} (ho : jmpIs (ti op) = true) {a b v w : BitVec 64} (hv : tn v ≤ tn a) (hw : tn w ≤ tn b) (h : scalar_short op a b = true) : jmpR op false v w = jmpR op true v w := by
 have m := max_ge a b
 have cut : ∀ x : BitVec 64, tn x < 4294967296 → (BitVec.setWidth 32 x).toNat = x.toNat := fun x hx => by
  unfold tn at hx
  rw [BitVec.toNat_setWidth]; omega
 have scut : ∀ x : BitVec 64, tn x < 2147483648 → (BitVec.setWidth 32 x).toInt = x.toInt := fun x hx => by
  unfold tn at hx
  rw [BitVec.toInt_eq_toNat_cond, BitVec.toInt_eq_toNat_cond, cut x (by unfold tn; omega)]
  rw [if_pos (by omega), if_pos (by omega)]
 have k := short_bd h
 have cv := cut v (by omega)
 have cw := cut w (by omega)
 have sg : (op = 96#64 ∨ op = 112#64 ∨ op = 192#64 ∨ op = 208#64) → (BitVec.setWidth 32 v).toInt = v.toInt ∧ (BitVec.setWidth 32 w).toInt = w.toInt := fun hs => by
  have k2 : tn (maxU a b) < 2147483648 := by
   have h' := short_sg hs h
   exact bd31 _ h'
  exact ⟨scut v (by omega), scut w (by omega)⟩
 have eqv : (BitVec.setWidth 32 v = BitVec.setWidth 32 w) ↔ v = w := by
  constructor
  ·intro e
   apply BitVec.eq_of_toNat_eq
   have := congrArg BitVec.toNat e
   rw [cv, cw] at this
   exact this
  ·intro e; rw [e]
 rcases jis_cases ho with rfl | rfl | rfl | rfl | rfl | rfl | rfl | rfl | rfl | rfl | rfl
 ·show decide (BitVec.setWidth 32 v = BitVec.setWidth 32 w) = decide (v = w)
  exact decide_eq_decide.2 eqv
 ·show decide ((BitVec.setWidth 32 w).toNat < (BitVec.setWidth 32 v).toNat) = decide (w.toNat < v.toNat)
  rw [cv, cw]
 ·show decide ((BitVec.setWidth 32 w).toNat ≤ (BitVec.setWidth 32 v).toNat) = decide (w.toNat ≤ v.toNat)
  rw [cv, cw]
 ·show decide (BitVec.setWidth 32 v &&& BitVec.setWidth 32 w ≠ 0) = decide (v &&& w ≠ 0)
  refine decide_eq_decide.2 (not_congr ?_)
  rw [← BitVec.setWidth_and]
  constructor
  ·intro e
   apply BitVec.eq_of_toNat_eq
   have q := congrArg BitVec.toNat e
   rw [BitVec.toNat_setWidth] at q
   have l : (v &&& w).toNat ≤ v.toNat := by rw [BitVec.toNat_and]; exact Nat.and_le_left
   have hv' : v.toNat < 4294967296 := by unfold tn at *; omega
   show (v &&& w).toNat = 0
   have q' : (v &&& w).toNat % 2 ^ 32 = 0 := q
   omega
  ·intro e; rw [e]; rfl
 ·show decide (BitVec.setWidth 32 v ≠ BitVec.setWidth 32 w) = decide (v ≠ w)
  exact decide_eq_decide.2 (not_congr eqv)
 ·obtain ⟨s1, s2⟩ := sg (.inl rfl)
  show decide ((BitVec.setWidth 32 w).toInt < (BitVec.setWidth 32 v).toInt) = decide (w.toInt < v.toInt)
  rw [s1, s2]
 ·obtain ⟨s1, s2⟩ := sg (.inr (.inl rfl))
  show decide ((BitVec.setWidth 32 w).toInt ≤ (BitVec.setWidth 32 v).toInt) = decide (w.toInt ≤ v.toInt)
  rw [s1, s2]
 ·show decide ((BitVec.setWidth 32 v).toNat < (BitVec.setWidth 32 w).toNat) = decide (v.toNat < w.toNat)
  rw [cv, cw]
 ·show decide ((BitVec.setWidth 32 v).toNat ≤ (BitVec.setWidth 32 w).toNat) = decide (v.toNat ≤ w.toNat)
  rw [cv, cw]
 ·obtain ⟨s1, s2⟩ := sg (.inr (.inr (.inl rfl)))
  show decide ((BitVec.setWidth 32 v).toInt < (BitVec.setWidth 32 w).toInt) = decide (v.toInt < w.toInt)
  rw [s1, s2]
 ·obtain ⟨s1, s2⟩ := sg (.inr (.inr (.inr rfl)))
  show decide ((BitVec.setWidth 32 v).toInt ≤ (BitVec.setWidth 32 w).toInt) = decide (v.toInt ≤ w.toInt)
  rw [s1, s2]
def settle2 (r : Sc × Sc × Bool) : Sc × Sc × Bool :=
 bif (!r.2.2) then (scalar_All, scalar_All, false) else bif (!(scalar_Norm r.1).2) then (scalar_All, scalar_All, false) else bif (!(scalar_Norm r.2.1).2) then (scalar_All, scalar_All, false) else ((scalar_Norm r.1).1, (scalar_Norm r.2.1).1, true)
theorem branch_is (op : BitVec 64) (wide : Bool) (a b : Sc) (taken : Bool) : scalar_Branch op wide a b taken =
  bif (!(jmpIs (ti op))) then (a, b, true) else bif single2 a b then (bif ((jmpR op wide a.t.lo b.t.lo) != taken) then (scalar_All, scalar_All, false) else (a, b, true))
   else bif (!wide && !scalar_short op a.u.hi b.u.hi) then (a, b, true) else settle2 (scalar_bounded op a b taken) := by
 unfold scalar_Branch settle2
 cases wide <;> cases scalar_short op a.u.hi b.u.hi <;> rfl
theorem branch_has {op : BitVec 64} {wide taken : Bool} (ho : jmpIs (ti op) = true) {a b : Sc} {v w : BitVec 64} (ca : clean a.t) (cb : clean b.t) (ha : scalar_In a v = true) (hb : scalar_In b w = true) (hj : jmpR op wide v w = taken) : Has2 (scalar_Branch op wide a b taken) v w := by
 rw [branch_is, ho, show (!true) = false from rfl, cond_f rfl]
 cases s : single2 a b
 ·rw [cond_f rfl]
  cases q : (!wide && !scalar_short op a.u.hi b.u.hi)
  ·rw [cond_f rfl]
   have hj' : jmpR op true v w = taken := by
    cases wide
    ·have hs : scalar_short op a.u.hi b.u.hi = true := by
      revert q
      cases scalar_short op a.u.hi b.u.hi <;> simp
     rw [← short_is ho (in3.1 ha).2.1.2 (in3.1 hb).2.1.2 hs]
     exact hj
    ·exact hj
   have hh := bounded_has ho ha hb hj'
   have hs := bounded_sub ho ca cb ha hb hh.may
   obtain ⟨n1, n2⟩ := norm_in hs.c1 hh.fst
   obtain ⟨n3, n4⟩ := norm_in hs.c2 hh.snd
   unfold settle2
   rw [hh.may, n1, n3]
   exact ⟨rfl, n2, n4⟩
  ·rw [cond_t rfl]
   exact ⟨rfl, ha, hb⟩
 ·rw [cond_t rfl]
  obtain ⟨k1, k2⟩ := single2_both s
  rw [← single1_val ha k1, ← single1_val hb k2, hj]
  rw [show (taken != taken) = false from by cases taken <;> rfl, cond_f rfl]
  exact ⟨rfl, ha, hb⟩
theorem branch_may {op : BitVec 64} {wide taken : Bool} (ho : jmpIs (ti op) = false) {a b : Sc} : (scalar_Branch op wide a b taken).2.2 = true := by
 rw [branch_is, ho]
 rfl
theorem branch_sub {op : BitVec 64} {wide taken : Bool} {a b : Sc} {v w : BitVec 64} (ca : clean a.t) (cb : clean b.t) (ha : scalar_In a v = true) (hb : scalar_In b w = true) (h : (scalar_Branch op wide a b taken).2.2 = true) : scalar_Within (scalar_Branch op wide a b taken).1 a = true ∧ scalar_Within (scalar_Branch op wide a b taken).2.1 b = true := by
 rw [branch_is] at *
 cases ho : jmpIs (ti op)
 ·exact ⟨sub_self _, sub_self _⟩
 ·rw [ho, show (!true) = false from rfl, cond_f rfl] at h
  rw [show (!true) = false from rfl, cond_f rfl]
  cases s : single2 a b
  ·rw [s, cond_f rfl] at h
   rw [cond_f rfl]
   cases q : (!wide && !scalar_short op a.u.hi b.u.hi)
   ·rw [q, cond_f rfl] at h
    rw [cond_f rfl]
    unfold settle2 at *
    cases r1 : (scalar_bounded op a b taken).2.2
    ·rw [r1] at h; cases h
    ·rw [r1, show (!true) = false from rfl, cond_f rfl] at h
     rw [show (!true) = false from rfl, cond_f rfl]
     have hs := bounded_sub ho ca cb ha hb r1
     cases r2 : (scalar_Norm (scalar_bounded op a b taken).1).2
     ·rw [r2] at h; cases h
     ·rw [r2, show (!true) = false from rfl, cond_f rfl] at h
      rw [show (!true) = false from rfl, cond_f rfl]
      cases r3 : (scalar_Norm (scalar_bounded op a b taken).2.1).2
      ·rw [r3] at h; cases h
      ·rw [show (!true) = false from rfl, cond_f rfl]
       exact ⟨sub_trans (step_norm.sub _ r2) hs.fst, sub_trans (step_norm.sub _ r3) hs.snd⟩
   ·rw [cond_t rfl]
    exact ⟨sub_self _, sub_self _⟩
  ·rw [s, cond_t rfl] at h
   rw [cond_t rfl]
   cases q : (jmpR op wide a.t.lo b.t.lo) != taken
   ·rw [cond_f rfl]
    exact ⟨sub_self _, sub_self _⟩
   ·rw [q] at h; cases h
theorem bif_l {a b : Bool} (h : (bif a then b else false) = true) : a = true := by cases a <;> simp at h ⊢
theorem bif_r {a b : Bool} (h : (bif a then b else false) = true) : b = true := by cases a <;> simp at h ⊢; exact h
theorem low_mod {a : Sc} {v : BitVec 64} (h : scalar_In a v = true) : scalar_In (scalar_Low a) (v % 4294967296#64) = true := by
 have e : v % 4294967296#64 = v &&& 4294967295#64 := by
  apply BitVec.eq_of_toNat_eq
  rw [low_toNat, BitVec.toNat_umod]; rfl
 rw [e]
 exact (Low_in h).2
theorem alu_no2 (op : BitVec 64) {wide : Bool} {a b : Sc} {v : BitVec 64} (h : (bif (!(aluIs (ti op))) then wide else false) = true) : scalar_In (scalar_Alu op wide a b) v = true := by
 have h1 := bif_l h
 have h2 := bif_r h
 subst h2
 refine alu_no ?_ v
 revert h1
 cases aluIs (ti op) <;> simp
def pick16 (x : BitVec 64) : BitVec 64 := x % 16#64
theorem pick_num (x : BitVec 64) : (if (ti x).tmod 16 < 0 then (ti x).tmod 16 + 16 else (ti x).tmod 16) = ti (pick16 x) := by
 have e1 : ti (pick16 x) = ((x.toNat % 16 : Nat) : Int) := by
  have q : (pick16 x).toNat = x.toNat % 16 := by unfold pick16; rw [BitVec.toNat_umod]; rfl
  unfold ti
  rw [BitVec.toInt_eq_toNat_cond, q, if_pos (by omega)]
 have e2 : (ti x) % 16 = ((x.toNat % 16 : Nat) : Int) := by
  unfold ti
  rw [BitVec.toInt_eq_toNat_cond]
  split <;> omega
 rw [e1, ← e2]
 by_cases h0 : 0 ≤ ti x
 ·rw [Int.tmod_eq_emod_of_nonneg h0, if_neg (by omega)]
 ·have e : (ti x).tmod 16 = -((-(ti x)) % 16) := by
   rw [show ti x = -(-(ti x)) by omega, Int.neg_tmod, Int.tmod_eq_emod_of_nonneg (by omega)]; omega
  rw [e]
  split <;> omega
end Go.Proofs.YtmcapfbkedfdkaaGreatDoor.Sp
