/-
  Plain facts: what span's calls make is what the document says. No program is looked at here.
-/
import Derived.Test.YtoojdndfjfmemaaSpC
import Derived.Test.YtoojdndfjfmemaaSpQ
import Derived.Test.YtoojdndfjfmemaaSpL
namespace Go.Proofs.Ytoojdndfjfmemaa.Sp
open Go.RowKit Go.Proofs.Ytoojdndfjfmemaa.Num Go.Proofs.Ytoojdndfjfmemaa.Up
theorem P.ext {a b : P} (h : a.lo = b.lo) (k : a.hi = b.hi) : a = b := by cases a; cases b; simp only at h k; rw [h, k]
theorem mk_eq {a b c d : BitVec 64} (h : a = c) (k : b = d) : P.mk a b = P.mk c d := by rw [h, k]
theorem tn_add (x y : BitVec 64) : tn (x + y) = (tn x + tn y) % 18446744073709551616 := by rw [← addUT, IntKind.wrap_u64]
theorem tn_sub (x y : BitVec 64) : tn (x - y) = (tn x - tn y) % 18446744073709551616 := by rw [← subUT, IntKind.wrap_u64]
theorem tn_mul (x y : BitVec 64) : tn (x * y) = (tn x * tn y) % 18446744073709551616 := by rw [← mulUT, IntKind.wrap_u64]
theorem ti_eq (x : BitVec 64) : ti x = if tn x < 9223372036854775808 then tn x else tn x - 18446744073709551616 := by
  unfold ti tn
  rw [BitVec.toInt_eq_toNat_cond]
  split <;> split <;> omega
theorem dec_eq {p q : Prop} [Decidable p] [Decidable q] (h : p ↔ q) : decide p = decide q := decide_eq_decide.2 h
theorem within_in (a : P) (v : BitVec 64) : ref_In a v = span_within_uint64 (P.mk v v) a := by
  unfold ref_In span_within_uint64 geU leU
  simp only [ge_iff_le]
theorem within_is (a b : P) : ref_Within a b = span_within_uint64 a b := by
  unfold ref_Within span_within_uint64 geU leU
  simp only [ge_iff_le]
theorem swithin_in (a : P) (v : BitVec 64) : ref_Sin a v = span_within_int64 (P.mk v v) a := by
  unfold ref_Sin span_within_int64 geI leI
  simp only [ge_iff_le]
theorem swithin_is (a b : P) : ref_Swithin a b = span_within_int64 a b := by
  unfold ref_Swithin span_within_int64 geI leI
  simp only [ge_iff_le]
theorem join_is (a b : P) : ref_Join a b = P.mk (minU a.lo b.lo) (maxU a.hi b.hi) := by
  unfold ref_Join ltU gtU minU maxU
  by_cases h : tn b.lo < tn a.lo <;> by_cases k : tn a.hi < tn b.hi <;> simp [h, k]
theorem sjoin_is (a b : P) : ref_Sjoin a b = P.mk (minI a.lo b.lo) (maxI a.hi b.hi) := by
  unfold ref_Sjoin ltI gtI minI maxI
  by_cases h : ti b.lo < ti a.lo <;> by_cases k : ti a.hi < ti b.hi <;> simp [h, k]
theorem meet_is (a b : P) : ref_Meet a b = span_meet_uint64 a b := by
  unfold ref_Meet span_meet_uint64 ltU gtU minU maxU
  by_cases h : tn a.lo < tn b.lo <;> by_cases k : tn b.hi < tn a.hi <;> simp [h, k]
theorem smeet_is (a b : P) : ref_Smeet a b = span_meet_int64 a b := by
  unfold ref_Smeet span_meet_int64 ltI gtI minI maxI
  by_cases h : ti a.lo < ti b.lo <;> by_cases k : ti b.hi < ti a.hi <;> simp [h, k]
theorem beq_t {a b : Bool} (h : b = true) : (a == b) = a := by subst h; cases a <;> rfl
theorem fit_add (x y : BitVec 64) : (geU (x + y) x == geU y 0#64) = leU x (18446744073709551615#64 - y) := by
  have h0 := tn_lo x; have h1 := tn_hi64 x; have h2 := tn_lo y; have h3 := tn_hi64 y
  have e : tn 18446744073709551615#64 = 18446744073709551615 := rfl
  rw [beq_t (show geU y 0#64 = true from decide_eq_true h2)]
  unfold geU leU
  rw [tn_add, tn_sub, e]
  exact dec_eq (by omega)
theorem fit_sub (x y : BitVec 64) : (leU (x - y) x == geU y 0#64) = geU x y := by
  have h0 := tn_lo x; have h1 := tn_hi64 x; have h2 := tn_lo y; have h3 := tn_hi64 y
  rw [beq_t (show geU y 0#64 = true from decide_eq_true h2)]
  unfold geU leU
  rw [tn_sub]
  exact dec_eq (by omega)
theorem add_is (a b : P) : ref_Add a b = span_Add a b := by
  unfold ref_Add span_Add span_add_uint64 span_alike
  simp only
  rw [fit_add, fit_add]
theorem sub_is (a b : P) : ref_Sub a b = span_Sub a b := by
  unfold ref_Sub span_Sub span_sub_uint64 span_alike
  simp only
  rw [fit_sub, fit_sub]
theorem ti_add (x y : BitVec 64) : ti (x + y) = (ti x + ti y + 9223372036854775808) % 18446744073709551616 - 9223372036854775808 := by rw [← addIT, IntKind.wrap_i64]
theorem ti_sub (x y : BitVec 64) : ti (x - y) = (ti x - ti y + 9223372036854775808) % 18446744073709551616 - 9223372036854775808 := by rw [← subIT, IntKind.wrap_i64]
theorem beq_f {a b : Bool} (h : b = false) : (a == b) = !a := by subst h; cases a <;> rfl
theorem dec_not {p q : Prop} [Decidable p] [Decidable q] (h : p ↔ ¬ q) : decide p = !decide q := by
  by_cases k : q
  · rw [decide_eq_true k, decide_eq_false (fun e => h.1 e k)]; rfl
  · rw [decide_eq_false k, decide_eq_true (h.2 k)]; rfl
theorem m0 : ti 0#64 = 0 := by decide
theorem m7 : ti 9223372036854775807#64 = 9223372036854775807 := by decide
theorem m8' : ti 9223372036854775808#64 = -9223372036854775808 := by decide
theorem sfit_add (x y : BitVec 64) : ref_ssums x y = (geI (x + y) x == geI y 0#64) := by
  have h0 := ti_bd x; have h1 := ti_bd y
  unfold ref_ssums
  by_cases h : ti 0#64 ≤ ti y
  · have k : geI y 0#64 = true := decide_eq_true h
    rw [cond_t k, beq_t k]
    rw [m0] at h
    unfold geI leI
    rw [ti_add, ti_sub, m7]
    exact dec_eq (by omega)
  · have k : geI y 0#64 = false := decide_eq_false h
    rw [cond_f k, beq_f k]
    rw [m0] at h
    unfold geI
    rw [ti_add, ti_sub, m8']
    exact dec_not (by omega)
theorem sfit_sub (x y : BitVec 64) : ref_sless x y = (leI (x - y) x == geI y 0#64) := by
  have h0 := ti_bd x; have h1 := ti_bd y
  unfold ref_sless
  by_cases h : ti 0#64 ≤ ti y
  · have k : geI y 0#64 = true := decide_eq_true h
    rw [cond_t k, beq_t k]
    rw [m0] at h
    unfold geI leI
    rw [ti_sub, ti_add, m8']
    exact dec_eq (by omega)
  · have k : geI y 0#64 = false := decide_eq_false h
    rw [cond_f k, beq_f k]
    rw [m0] at h
    unfold leI
    rw [ti_sub, ti_add, m7]
    exact dec_not (by omega)
theorem sadd_is (a b : P) : ref_Sadd a b = span_Sadd a b := by
  unfold ref_Sadd span_Sadd span_add_int64 span_both
  simp only
  rw [← sfit_add, ← sfit_add]
theorem ssub_is (a b : P) : ref_Ssub a b = span_Ssub a b := by
  unfold ref_Ssub span_Ssub span_sub_int64 span_both
  simp only
  rw [← sfit_sub, ← sfit_sub]
theorem scut_is (a : P) : ref_Scut a = span_Scut a := by
  unfold ref_Scut span_Scut
  rw [swithin_is]
  cases span_within_int64 a (P.mk 18446744071562067968#64 2147483647#64) <;> rfl
theorem cut_is (a : P) : ref_Cut a = span_Cut a := by
  have e : ∀ x : BitVec 64, BitVec.setWidth 64 (BitVec.setWidth 32 x) = x % 4294967296#64 := fun x => by
    apply BitVec.eq_of_toNat_eq
    rw [BitVec.toNat_setWidth, BitVec.toNat_setWidth, BitVec.toNat_umod]
    have := x.isLt
    show x.toNat % 2 ^ 32 % 2 ^ 64 = x.toNat % 4294967296
    omega
  have e1 : geU (a.hi - a.lo) 4294967296#64 = gtU (a.hi - a.lo) 4294967295#64 := by
    unfold geU gtU
    rw [show tn 4294967296#64 = 4294967296 from rfl, show tn 4294967295#64 = 4294967295 from rfl]
    exact dec_eq (by omega)
  have e2 : (!(leU (a.lo % 4294967296#64) (a.hi % 4294967296#64))) = gtW (BitVec.setWidth 32 a.lo) (BitVec.setWidth 32 a.hi) := by
    have q : ∀ x : BitVec 64, tn (BitVec.setWidth 32 x) = tn (x % 4294967296#64) := fun x => by
      unfold tn
      rw [BitVec.toNat_setWidth, BitVec.toNat_umod]
      rfl
    unfold leU gtW
    rw [q, q]
    exact (dec_not (by omega)).symm
  unfold ref_Cut span_Cut
  simp only
  rw [e, e, e1, e2]
end Go.Proofs.Ytoojdndfjfmemaa.Sp
