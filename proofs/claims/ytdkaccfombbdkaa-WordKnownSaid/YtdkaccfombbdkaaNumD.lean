/-
  Plain facts: bytes that are turned round twice.
-/
import Derived.Test.YtdkaccfombbdkaaNumB
namespace Go.Proofs.Ytdkaccfombbdkaa.Num
open Go.RowKit
theorem swap_bits (n : Nat) (hn : n = 16 ∨ n = 32 ∨ n = 64) (x : BitVec 64) (j : Nat) : (revV x >>> (64 - n)).getLsbD j = (decide (j < n) && x.getLsbD (posS n j)) := by
  rw [BitVec.getLsbD_ushiftRight]
  by_cases hj : j < n
  · have p := posS_any n hn j hj
    rw [rev_bits x _ (by omega), p.2.2]; simp [hj]
  · rw [BitVec.getLsbD_of_ge _ _ (by omega)]; simp [hj]
theorem swap_twice (n : Nat) (hn : n = 16 ∨ n = 32 ∨ n = 64) (x : BitVec 64) : (revV (revV x >>> (64 - n)) >>> (64 - n)).toNat = x.toNat % 2 ^ n := by
  apply Nat.eq_of_testBit_eq
  intro j
  rw [BitVec.testBit_toNat, swap_bits n hn, Nat.testBit_mod_two_pow, BitVec.testBit_toNat]
  by_cases hj : j < n
  · have p := posS_any n hn j hj
    rw [swap_bits n hn, p.2.1]; simp [hj, p.1]
  · simp [hj]
theorem swap_back (n : Int) (hn : n = 16 ∨ n = 32 ∨ n = 64) (a : Int) (a0 : 0 ≤ a) (a1 : a ≤ 18446744073709551615) : swapA n true (swapA n true a) = swapA n false a := by
  have key : ∀ m : Nat, (m = 16 ∨ m = 32 ∨ m = 64) → swapN m true (swapN m true a) = swapN m false a := fun m hm => by
    have e := swap_twice m hm (b64 a)
    show tn (revV (b64 (tn (revV (b64 a) >>> (64 - m)))) >>> (64 - m)) = a % 2 ^ m
    rw [b64_tn]; unfold tn; rw [e, Int.natCast_emod, toNat64 a a0 a1]; simp
  rcases hn with rfl | rfl | rfl
  · exact key 16 (by decide)
  · exact key 32 (by decide)
  · exact key 64 (by decide)
theorem swap_lo (n : Int) (hn : n = 16 ∨ n = 32 ∨ n = 64) (a : Int) : 0 ≤ swapA n true a := by
  rcases hn with rfl | rfl | rfl <;> exact tn_lo _
theorem swap_hi (n : Int) (hn : n = 16 ∨ n = 32 ∨ n = 64) (a : Int) : swapA n true a ≤ 18446744073709551615 := by
  rcases hn with rfl | rfl | rfl <;> exact tn_hi64 _
end Go.Proofs.Ytdkaccfombbdkaa.Num
