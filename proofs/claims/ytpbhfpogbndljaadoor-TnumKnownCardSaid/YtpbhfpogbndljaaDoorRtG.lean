/-
  Plain facts: the bits of what the document's tnums are. No program is looked at here.
-/
import Derived.Test.YtpbhfpogbndljaaDoorRtF
namespace Go.Proofs.YtpbhfpogbndljaaDoor.Rt
open Go.RowKit Go.Proofs.YtpbhfpogbndljaaDoor.Num Go.Proofs.YtpbhfpogbndljaaDoor.Up
theorem add_bit (x : BitVec 64) (k : Nat) (hk : k < 64) (h : x.getLsbD k = false) : x + (1#64 <<< (BitVec.ofNat 64 k).toNat) = x ||| BitVec.twoPow 64 k := by
  have e : (BitVec.ofNat 64 k).toNat = k := by rw [BitVec.toNat_ofNat]; omega
  have p : 1#64 <<< k = BitVec.twoPow 64 k := by rw [BitVec.twoPow_eq]
  rw [e, p]
  apply BitVec.add_eq_or_of_and_eq_zero
  rw [BitVec.and_twoPow, if_neg (by rw [h]; simp)]
theorem sum_bits (F : Nat → Bool) (f : Nat → BitVec 64) (h0 : f 0 = 0#64) (hs : ∀ k, k < 64 → f (k + 1) = bif F k then f k + (1#64 <<< (BitVec.ofNat 64 k).toNat) else f k) :
    ∀ k, k ≤ 64 → ∀ i, (f k).getLsbD i = (decide (i < k) && F i) := by
  intro k
  induction k with
  | zero => intro _ i; rw [h0]; simp
  | succ k ih =>
    intro hk i
    have ih := ih (by omega)
    rw [hs k (by omega)]
    cases hF : F k
    · rw [cond_f rfl, ih i]
      by_cases e : i = k
      · subst e; simp [hF]
      · have : (i < k + 1) ↔ (i < k) := by omega
        simp [this]
    · rw [cond_t rfl, add_bit _ k (by omega) (by rw [ih k]; simp), BitVec.getLsbD_or, ih i, BitVec.getLsbD_twoPow]
      by_cases e : i = k
      · subst e; simp [hF, show i < 64 by omega]
      · have : (i < k + 1) ↔ (i < k) := by omega
        simp [this, Ne.symm e]
theorem tnumB_hi (b : BB) (i : Nat) (h : i < 64) : (tnumB b).hi.getLsbD i = (b.Z i && b.O i) := by
  have := sum_bits (fun i => bif b.Z i then b.O i else false) (mB b) rfl (fun k _ => rfl) 64 (Nat.le_refl _) i
  show (mB b 64).getLsbD i = _
  rw [this]
  simp only [h, decide_true, Bool.true_and]
  cases b.Z i <;> cases b.O i <;> rfl
theorem tnumB_lo (b : BB) (i : Nat) (h : i < 64) : (tnumB b).lo.getLsbD i = (!b.Z i && b.O i) := by
  have := sum_bits (fun i => bif (bif b.Z i then b.O i else false) then false else b.O i) (vB b) rfl (fun k _ => by
    show (bif (bif b.Z k then b.O k else false) then vB b k else bif b.O k then vB b k + _ else vB b k) = _
    cases b.Z k <;> cases b.O k <;> rfl) 64 (Nat.le_refl _) i
  show (vB b 64).getLsbD i = _
  rw [this]
  simp only [h, decide_true, Bool.true_and]
  cases b.Z i <;> cases b.O i <;> rfl
theorem P_ext {a b : P} (h : ∀ i, i < 64 → a.lo.getLsbD i = b.lo.getLsbD i) (k : ∀ i, i < 64 → a.hi.getLsbD i = b.hi.getLsbD i) : a = b := by
  have e1 := BitVec.eq_of_getLsbD_eq (x := a.lo) (y := b.lo) (fun i hi => h i hi)
  have e2 := BitVec.eq_of_getLsbD_eq (x := a.hi) (y := b.hi) (fun i hi => k i hi)
  cases a; cases b; simp only at e1 e2; rw [e1, e2]
end Go.Proofs.YtpbhfpogbndljaaDoor.Rt
