/-
  Contracts of the document's answers for numbers: bit, Cut, bitwise, shift, whole, Alu, signed, Jump.
-/
import Derived.Test.YtdkaccfombbdkaaRows
import Derived.Test.YtdkaccfombbdkaaNum
import Derived.WalkKit
import Derived.WalkSpells
import Derived.WalkLawsBesides
namespace Go.Proofs.Ytdkaccfombbdkaa.RefA
open Go.RowKit Go.Proofs.Ytdkaccfombbdkaa.Num
theorem bit_any (a i : Int) (w : World) (a0 : 0 ≤ a) (i0 : 0 ≤ i) (i1 : i < 64) :
    Calls Try.prog 37 #[.int .u64 a, .int .i64 i] w fun e w' => e = .returned (.bool (a.toNat.testBit i.toNat)) ∧ w = w' := by
  go_enter Try.func37, Try.ntmps37
  go_wp2
  go_ret
  exact ⟨by rw [← bitEq a i a0]; rfl, rfl⟩
theorem cut_any (a n : Int) (w : World) (a0 : 0 ≤ a) (n0 : 0 ≤ n) (n1 : n ≤ 64) :
    Calls Try.prog 29 #[.int .u64 a, .int .i64 n] w fun e w' => e = .returned (.int .u64 ((a.toNat % 2 ^ n.toNat : Nat) : Int)) ∧ w = w' := by
  obtain ⟨m, rfl⟩ := Int.eq_ofNat_of_zero_le n0
  have fin : gather (fun i => a.toNat.testBit i) id m = a.toNat % 2 ^ m := by
    refine gather_is _ _ _ (Nat.mod_lt _ (Nat.two_pow_pos m)) (fun j hj => ?_)
    rw [Nat.testBit_mod_two_pow]; simp [hj]
  rw [Int.toNat_natCast, ← fin]; clear fin
  go_enter Try.func29, Try.ntmps29
  go_wp2
  go_loop [5, 6] (fun o i => ∃ k : Nat, k ≤ m ∧ i = .int .i64 k ∧ o = .int .u64 (gather (fun i => a.toNat.testBit i) id k : Nat)) (fun _ i => m - (intOf i).toNat)
  case atStart => exact ⟨0, Nat.zero_le _, rfl, rfl⟩
  case round =>
    obtain ⟨k, hk, rfl, rfl⟩ := hrel
    go_wp2_with (go_at_call 37; refine (bit_any _ _ _ a0 (by omega) (by omega)).mono ?_; rintro e w' ⟨rfl, rfl⟩)
    · go_round
      case rel => exact ⟨k + 1, by omega, by go_num, val_u64 (gather_yes _ id k (by assumption) (gather_id_lt64 _ _ (by omega)))⟩
      case measure => simp [intOf]; omega
    · go_round
      case rel => exact ⟨k + 1, by omega, by go_num, val_u64 (by rw [gather_no _ id k (by assumption)])⟩
      case measure => simp [intOf]; omega
    · have : k = m := by omega
      subst this
      go_ret
      exact ⟨rfl, rfl⟩
end Go.Proofs.Ytdkaccfombbdkaa.RefA
