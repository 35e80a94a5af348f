/-
  Plain facts: each of the document's answers is the program's.
-/
import Derived.Test.YtejcjjimhaokfaaDoorDcA
import Derived.Test.YtejcjjimhaokfaaDoorDcR
namespace Go.Proofs.YtejcjjimhaokfaaDoor.Dcl
open Go.RowKit Go.Proofs.YtejcjjimhaokfaaDoor.Num Go.Proofs.YtejcjjimhaokfaaDoor.Up Go.Proofs.YtejcjjimhaokfaaDoor.Tn
theorem bucket_is (x n : BitVec 64) : ref_Bucket x n = decl_Bucket x n := by
  unfold ref_Bucket decl_Bucket
  have e : (x * 11400714819323198485#64) / 4294967296#64 = (x * 11400714819323198485#64) >>> (32#64).toNat := by
    rw [show (32#64 : BitVec 64).toNat = 32 from rfl, shr_div _ 32 (by omega)]
    rfl
  rw [e]
theorem like_is (x y : Dc) : ref_Like x y = eqD x y := by
  unfold ref_Like eqD
  cases x.kind == y.kind <;> cases x.entries == y.entries <;> cases x.words == y.words <;> cases x.buckets == y.buckets <;> rfl
theorem kind_no {k : BitVec 64} (h : ¬ (1 ≤ ti k ∧ ti k ≤ 10)) (n : BitVec 64) (h1 : 1 ≤ ti n) (h2 : ti n ≤ 10) : (k == n) = false := by
  rw [beq_eq_false_iff_ne]
  rintro rfl
  exact h ⟨h1, h2⟩
theorem spread_is (k : BitVec 64) : (bif (k == 4#64) then true else (k == 10#64)) = (feat2 k).1.spread := by
  by_cases h : 1 ≤ ti k ∧ ti k ≤ 10
  · rcases kind_cases k h with rfl | rfl | rfl | rfl | rfl | rfl | rfl | rfl | rfl | rfl <;> decide +kernel
  · rw [feat2_no h, kind_no h 4#64 (by decide) (by decide), kind_no h 10#64 (by decide) (by decide)]
    rfl
theorem ahead_is (d : Dc) (a b : BitVec 64) : ref_Ahead d a b = decl_Ahead d a b := by
  unfold ref_Ahead decl_Ahead
  rw [spread_is, bucket_is, bucket_is]
theorem op_cases (k : BitVec 64) (h1 : geI k 1#64 = true) (h2 : leI k 8#64 = true) : k = 1#64 ∨ k = 2#64 ∨ k = 3#64 ∨ k = 4#64 ∨ k = 5#64 ∨ k = 6#64 ∨ k = 7#64 ∨ k = 8#64 := by
  have h1' := of_decide_eq_true h1
  have h2' := of_decide_eq_true h2
  rw [show ti 1#64 = 1 from by decide] at h1'
  rw [show ti 8#64 = 8 from by decide] at h2'
  have hk : ti k = 1 ∨ ti k = 2 ∨ ti k = 3 ∨ ti k = 4 ∨ ti k = 5 ∨ ti k = 6 ∨ ti k = 7 ∨ ti k = 8 := by omega
  rcases hk with e | e | e | e | e | e | e | e <;> (have := ti_is e; simp [this])
theorem op_no {k : BitVec 64} (h : ¬ (geI k 1#64 = true ∧ leI k 8#64 = true)) (n : BitVec 64) (h1 : geI n 1#64 = true) (h2 : leI n 8#64 = true) : (k == n) = false := by
  rw [beq_eq_false_iff_ne]
  rintro rfl
  exact h ⟨h1, h2⟩
theorem may_is (k op : BitVec 64) : ref_May k op = decl_May k op := by
  by_cases ho : geI op 1#64 = true ∧ leI op 8#64 = true
  · by_cases h : 1 ≤ ti k ∧ ti k ≤ 10
    · rcases kind_cases k h with rfl | rfl | rfl | rfl | rfl | rfl | rfl | rfl | rfl | rfl <;> rcases op_cases op ho.1 ho.2 with rfl | rfl | rfl | rfl | rfl | rfl | rfl | rfl <;> decide +kernel
    · have e : decl_May k op = false := by
        unfold decl_May
        rw [feat2_no h, ho.1, ho.2]
        rcases op_cases op ho.1 ho.2 with rfl | rfl | rfl | rfl | rfl | rfl | rfl | rfl <;> decide +kernel
      rw [e]
      unfold ref_May
      rw [kind_no h 1#64 (by decide) (by decide), kind_no h 2#64 (by decide) (by decide), kind_no h 3#64 (by decide) (by decide), kind_no h 4#64 (by decide) (by decide), kind_no h 5#64 (by decide) (by decide), kind_no h 6#64 (by decide) (by decide), kind_no h 7#64 (by decide) (by decide), kind_no h 8#64 (by decide) (by decide), kind_no h 9#64 (by decide) (by decide), kind_no h 10#64 (by decide) (by decide)]
      rcases op_cases op ho.1 ho.2 with rfl | rfl | rfl | rfl | rfl | rfl | rfl | rfl <;> decide +kernel
  · have e : decl_May k op = false := by
      unfold decl_May
      cases h1 : geI op 1#64
      · rfl
      · cases h2 : leI op 8#64
        · rfl
        · exact absurd ⟨h1, h2⟩ ho
    rw [e]
    unfold ref_May
    rw [op_no ho 1#64 (by decide) (by decide), op_no ho 2#64 (by decide) (by decide), op_no ho 3#64 (by decide) (by decide), op_no ho 4#64 (by decide) (by decide), op_no ho 5#64 (by decide) (by decide), op_no ho 6#64 (by decide) (by decide), op_no ho 7#64 (by decide) (by decide), op_no ho 8#64 (by decide) (by decide)]
    rfl
end Go.Proofs.YtejcjjimhaokfaaDoor.Dcl
