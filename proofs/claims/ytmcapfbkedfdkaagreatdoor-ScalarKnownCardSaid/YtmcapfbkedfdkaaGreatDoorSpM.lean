/-
  Plain facts: what span's calls make is what the document says. No program is looked at here.
-/
import Derived.Test.YtmcapfbkedfdkaaGreatDoorSpC
import Derived.Test.YtmcapfbkedfdkaaGreatDoorSpL
namespace Go.Proofs.YtmcapfbkedfdkaaGreatDoor.Sp
open Go.RowKit Go.Proofs.YtmcapfbkedfdkaaGreatDoor.Num Go.Proofs.YtmcapfbkedfdkaaGreatDoor.Up
theorem P.ext {a b : P} (h : a.lo = b.lo) (k : a.hi = b.hi) : a = b := by cases a; cases b; simp only at h k; rw [h, k]
theorem mk_eq {a b c d : BitVec 64} (h : a = c) (k : b = d) : P.mk a b = P.mk c d := by rw [h, k]
theorem tn_add (x y : BitVec 64) : tn (x + y) = (tn x + tn y) % 18446744073709551616 := by rw [← addUT, IntKind.wrap_u64]
theorem tn_sub (x y : BitVec 64) : tn (x - y) = (tn x - tn y) % 18446744073709551616 := by rw [← subUT, IntKind.wrap_u64]
theorem tn_mul (x y : BitVec 64) : tn (x * y) = (tn x * tn y) % 18446744073709551616 := by rw [← mulUT, IntKind.wrap_u64]
theorem ti_eq (x : BitVec 64) : ti x = if tn x < 9223372036854775808 then tn x else tn x - 18446744073709551616 := by
 unfold ti tn
 rw [BitVec.toInt_eq_toNat_cond]
 split <;> split <;> omega
theorem dec_eq {p q : Prop} [Decidable p] [Decidable q] (h : p ↔ q) : decide p = decide q := decide_eq_decide.2 h
theorem beq_t {a b : Bool} (h : b = true) : (a == b) = a := by subst h; cases a <;> rfl
theorem fit_add (x y : BitVec 64) : (geU (x + y) x == geU y 0#64) = leU x (18446744073709551615#64 - y) := by
 have h0 := tn_lo x; have h1 := tn_hi64 x; have h2 := tn_lo y; have h3 := tn_hi64 y
 have e : tn 18446744073709551615#64 = 18446744073709551615 := rfl
 rw [beq_t (show geU y 0#64 = true from decide_eq_true h2)]
 unfold geU leU
 rw [tn_add, tn_sub, e]
 exact dec_eq (by omega)
theorem fit_sub (x y : BitVec 64) : (leU (x - y) x == geU y 0#64) = geU x y := by
 have h0 := tn_lo x; have h1 := tn_hi64 x; have h2 := tn_lo y; have h3 := tn_hi64 y
 rw [beq_t (show geU y 0#64 = true from decide_eq_true h2)]
 unfold geU leU
 rw [tn_sub]
 exact dec_eq (by omega)
theorem ti_add (x y : BitVec 64) : ti (x + y) = (ti x + ti y + 9223372036854775808) % 18446744073709551616 - 9223372036854775808 := by rw [← addIT, IntKind.wrap_i64]
theorem ti_sub (x y : BitVec 64) : ti (x - y) = (ti x - ti y + 9223372036854775808) % 18446744073709551616 - 9223372036854775808 := by rw [← subIT, IntKind.wrap_i64]
theorem beq_f {a b : Bool} (h : b = false) : (a == b) = !a := by subst h; cases a <;> rfl
theorem dec_not {p q : Prop} [Decidable p] [Decidable q] (h : p ↔ ¬ q) : decide p = !decide q := by
 by_cases k : q
 ·rw [decide_eq_true k, decide_eq_false (fun e => h.1 e k)]; rfl
 ·rw [decide_eq_false k, decide_eq_true (h.2 k)]; rfl
theorem m0 : ti 0#64 = 0 := by decide
theorem m7 : ti 9223372036854775807#64 = 9223372036854775807 := by decide
theorem m8' : ti 9223372036854775808#64 = -9223372036854775808 := by decide
end Go.Proofs.YtmcapfbkedfdkaaGreatDoor.Sp
