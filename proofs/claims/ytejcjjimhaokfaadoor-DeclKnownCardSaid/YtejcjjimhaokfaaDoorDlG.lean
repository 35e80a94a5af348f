/-
  The bits of a key: those that the document puts together are the program's; how many there are.
-/
import Derived.Test.YtejcjjimhaokfaaDoorDcB
import Derived.Test.YtejcjjimhaokfaaDoorDcE
import Derived.Test.YtejcjjimhaokfaaDoorLoop
namespace Go.Proofs.YtejcjjimhaokfaaDoor.Dcl
open Go.RowKit Go.Proofs.YtejcjjimhaokfaaDoor.Num Go.Proofs.YtejcjjimhaokfaaDoor.Up Go.Proofs.YtejcjjimhaokfaaDoor.Tn
theorem nf {b : Bool} (h : b = true) : (!b) = false := by rw [h]; rfl
theorem nt {b : Bool} (h : b = false) : (!b) = true := by rw [h]; rfl
def blC (h : BitVec 64) (i : Nat) : Bool := (bif (bif ((h >>> (58#64).toNat) == (BitVec.ofNat 64 i)) then true else (((h >>> (52#64).toNat) % 64#64) == (BitVec.ofNat 64 i))) then true else (((h >>> (46#64).toNat) % 64#64) == (BitVec.ofNat 64 i)))
def blm (h : BitVec 64) : Nat → BitVec 64
  | 0 => 0#64
  | k + 1 => bif blC h k then blm h k + (1#64 <<< shN (BitVec.ofNat 64 k)) else blm h k
theorem blm_t {h : BitVec 64} {k : Nat} (e : blC h k = true) : blm h k + (1#64 <<< shN (BitVec.ofNat 64 k)) = blm h (k + 1) := by
  unfold blm; rw [e]; cases k <;> rfl
theorem blm_f {h : BitVec 64} {k : Nat} (e : blC h k = false) : blm h k = blm h (k + 1) := by
  conv => rhs; unfold blm
  rw [e]; rfl
def or3 (h : BitVec 64) : BitVec 64 := ((1#64 <<< shN (h >>> (58#64).toNat)) ||| (1#64 <<< shN ((h >>> (52#64).toNat) % 64#64))) ||| (1#64 <<< shN ((h >>> (46#64).toNat) % 64#64))
theorem lt58 (h : BitVec 64) : (h >>> (58#64).toNat).toNat < 64 := by
  rw [BitVec.toNat_ushiftRight, Nat.shiftRight_eq_div_pow, show (58#64 : BitVec 64).toNat = 58 from rfl]
  have := h.isLt
  omega
theorem lt64 (x : BitVec 64) : (x % 64#64).toNat < 64 := by
  rw [BitVec.toNat_umod]
  exact Nat.mod_lt _ (by decide)
theorem is_nat {x : BitVec 64} (hx : x.toNat < 64) {i : Nat} (hi : i < 64) : (x == BitVec.ofNat 64 i) = decide (i = x.toNat) := by
  rw [Bool.eq_iff_iff, beq_iff_eq, decide_eq_true_iff]
  constructor
  · rintro rfl
    rw [BitVec.toNat_ofNat]; omega
  · rintro rfl
    rw [BitVec.ofNat_toNat, BitVec.setWidth_eq]
theorem one_bit (s i : Nat) (hi : i < 64) : (1#64 <<< s).getLsbD i = decide (i = s) := by
  rw [← BitVec.twoPow_eq, BitVec.getLsbD_twoPow]
  by_cases e : i = s
  · subst e; simp [hi]
  · simp [e, Ne.symm e]
theorem blC_is (h : BitVec 64) (i : Nat) (hi : i < 64) : blC h i = (or3 h).getLsbD i := by
  unfold blC or3 shN
  rw [is_nat (lt58 h) hi, is_nat (lt64 _) hi, is_nat (lt64 _) hi, BitVec.getLsbD_or, BitVec.getLsbD_or, one_bit _ _ hi, one_bit _ _ hi, one_bit _ _ hi]
  cases decide (i = (h >>> (58#64).toNat).toNat) <;> cases decide (i = ((h >>> (52#64).toNat) % 64#64).toNat) <;> rfl
theorem blm_bits (h : BitVec 64) (k : Nat) (hk : k ≤ 64) : ∀ j, j < 64 → (blm h k).getLsbD j = (decide (j < k) && blC h j) := by
  induction k with
  | zero => intro j _; simp [blm]
  | succ k ih =>
    intro j hj
    have ih' := ih (by omega)
    have ek : shN (BitVec.ofNat 64 k) = k := by unfold shN; rw [BitVec.toNat_ofNat]; omega
    cases e : blC h k
    · rw [← blm_f e, ih' j hj]
      by_cases h1 : j < k
      · simp [h1, show j < k + 1 by omega]
      · by_cases h2 : j = k
        · subst h2; simp [e]
        · simp [h1, show ¬ j < k + 1 by omega]
    · rw [← blm_t e, ek]
      have hz : blm h k &&& (1#64 <<< k) = 0#64 := by
        apply BitVec.eq_of_getLsbD_eq
        intro i hi
        rw [BitVec.getLsbD_and, one_bit _ _ hi, ih' i hi]
        by_cases h2 : i = k
        · subst h2; simp
        · simp [h2]
      rw [BitVec.add_eq_or_of_and_eq_zero _ _ hz, BitVec.getLsbD_or, one_bit _ _ hj, ih' j hj]
      by_cases h1 : j < k
      · simp [h1, show j < k + 1 by omega, show ¬ j = k by omega]
      · by_cases h2 : j = k
        · subst h2; simp [e]
        · simp [h1, h2, show ¬ j < k + 1 by omega]
theorem blm_all (h : BitVec 64) : blm h 64 = or3 h := by
  apply BitVec.eq_of_getLsbD_eq
  intro i hi
  rw [blm_bits h 64 (Nat.le_refl _) i hi, blC_is h i hi]
  simp [hi]
/-- How many of the first k bits are set. -/
def cntB (B : BitVec 64) : Nat → Nat
  | 0 => 0
  | k + 1 => if B.getLsbD k = true then cntB B k + 1 else cntB B k
theorem cnt_t {B : BitVec 64} {k : Nat} (e : B.getLsbD k = true) : cntB B k + 1 = cntB B (k + 1) := by
  conv => rhs; unfold cntB
  rw [if_pos e]
theorem cnt_f {B : BitVec 64} {k : Nat} (e : B.getLsbD k = false) : cntB B k = cntB B (k + 1) := by
  conv => rhs; unfold cntB
  rw [if_neg (by rw [e]; decide)]
theorem cnt_le (B : BitVec 64) (k : Nat) : cntB B k ≤ k := by
  induction k with
  | zero => exact Nat.le_refl _
  | succ k ih => unfold cntB; split <;> omega
theorem cnt_three (B : BitVec 64) (s1 s2 s3 : Nat) (h : ∀ j, j < 64 → B.getLsbD j = true → j = s1 ∨ j = s2 ∨ j = s3) (k : Nat) (hk : k ≤ 64) : cntB B k ≤ (if s1 < k then 1 else 0) + (if s2 < k then 1 else 0) + (if s3 < k then 1 else 0) := by
  induction k with
  | zero => simp [cntB]
  | succ k ih =>
    have ih' := ih (by omega)
    unfold cntB
    split
    · rename_i e
      rcases h k (by omega) e with h1 | h1 | h1 <;> subst h1 <;> (split at ih' <;> split at ih' <;> split at ih' <;> split <;> split <;> split <;> omega)
    · split at ih' <;> split at ih' <;> split at ih' <;> split <;> split <;> split <;> omega
theorem cnt_one (B : BitVec 64) (s : Nat) (h : B.getLsbD s = true) (k : Nat) (hk : s < k) : 1 ≤ cntB B k := by
  induction k with
  | zero => omega
  | succ k ih =>
    unfold cntB
    split
    · omega
    · rename_i e
      by_cases hs : s = k
      · subst hs; exact absurd h e
      · exact ih (by omega)
theorem or3_cnt (h : BitVec 64) : 1 ≤ cntB (or3 h) 64 ∧ cntB (or3 h) 64 ≤ 3 := by
  have hb : ∀ j, j < 64 → (or3 h).getLsbD j = (decide (j = (h >>> (58#64).toNat).toNat) || decide (j = ((h >>> (52#64).toNat) % 64#64).toNat) || decide (j = ((h >>> (46#64).toNat) % 64#64).toNat)) := fun j hj => by
    unfold or3 shN
    rw [BitVec.getLsbD_or, BitVec.getLsbD_or, one_bit _ _ hj, one_bit _ _ hj, one_bit _ _ hj]
  constructor
  · exact cnt_one _ _ (by rw [hb _ (lt58 h)]; simp) 64 (lt58 h)
  · have := cnt_three (or3 h) _ _ _ (fun j hj e => by
      rw [hb j hj] at e
      simpa [or_assoc] using e) 64 (Nat.le_refl _)
    split at this <;> split at this <;> split at this <;> omega
end Go.Proofs.YtejcjjimhaokfaaDoor.Dcl
