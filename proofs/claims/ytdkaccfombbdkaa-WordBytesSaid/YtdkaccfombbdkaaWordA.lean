/-
  Contracts of package word's functions on numbers alone: Alu, Jump and what they call.
-/
import Derived.Test.YtdkaccfombbdkaaRows
import Derived.Test.YtdkaccfombbdkaaNum
import Derived.WalkKit
import Derived.WalkSpells
import Derived.WalkLawsBesides
namespace Go.Proofs.Ytdkaccfombbdkaa.WordA
open Go.RowKit Go.Proofs.Ytdkaccfombbdkaa.Num
theorem quo64 (a b : Int) (w : World) (a0 : 0 ≤ a) (a1 : a ≤ 18446744073709551615) (b0 : 0 ≤ b) (b1 : b ≤ 18446744073709551615) :
    Calls Try.prog 41 #[.int .u64 a, .int .u64 b] w fun e w' => e = .returned (.int .u64 (tn (b64 a / b64 b))) ∧ w = w' := by
  rw [← div64 a b a0 a1 b0 b1]
  by_cases h : b = 0
  · subst h
    go_enter Try.func41, Try.ntmps41
    go_wp2
    go_ret
    exact ⟨by simp, rfl⟩
  · have h' : (b == 0) = false := by simp [h]
    have h2 : 1 ≤ b := by omega
    go_enter Try.func41, Try.ntmps41
    go_wp2
    go_ret
    exact ⟨rfl, rfl⟩
theorem quo32 (a b : Int) (w : World) (a0 : 0 ≤ a) (a1 : a ≤ 4294967295) (b0 : 0 ≤ b) (b1 : b ≤ 4294967295) :
    Calls Try.prog 44 #[.int .u32 a, .int .u32 b] w fun e w' => e = .returned (.int .u32 (tn (b32 a / b32 b))) ∧ w = w' := by
  rw [← div32 a b a0 a1 b0 b1]
  by_cases h : b = 0
  · subst h
    go_enter Try.func44, Try.ntmps44
    go_wp2
    go_ret
    exact ⟨by simp, rfl⟩
  · have h' : (b == 0) = false := by simp [h]
    have h2 : 1 ≤ b := by omega
    go_enter Try.func44, Try.ntmps44
    go_wp2
    go_ret
    exact ⟨rfl, rfl⟩
theorem rem64 (a b : Int) (w : World) (a0 : 0 ≤ a) (a1 : a ≤ 18446744073709551615) (b0 : 0 ≤ b) (b1 : b ≤ 18446744073709551615) :
    Calls Try.prog 43 #[.int .u64 a, .int .u64 b] w fun e w' => e = .returned (.int .u64 (tn (b64 a % b64 b))) ∧ w = w' := by
  rw [← mod64 a b a0 a1 b0 b1]
  by_cases h : b = 0
  · subst h
    go_enter Try.func43, Try.ntmps43
    go_wp2
    go_ret
    exact ⟨by simp, rfl⟩
  · have h' : (b == 0) = false := by simp [h]
    have h2 : 1 ≤ b := by omega
    go_enter Try.func43, Try.ntmps43
    go_wp2
    go_ret
    exact ⟨rfl, rfl⟩
theorem rem32 (a b : Int) (w : World) (a0 : 0 ≤ a) (a1 : a ≤ 4294967295) (b0 : 0 ≤ b) (b1 : b ≤ 4294967295) :
    Calls Try.prog 46 #[.int .u32 a, .int .u32 b] w fun e w' => e = .returned (.int .u32 (tn (b32 a % b32 b))) ∧ w = w' := by
  rw [← mod32 a b a0 a1 b0 b1]
  by_cases h : b = 0
  · subst h
    go_enter Try.func46, Try.ntmps46
    go_wp2
    go_ret
    exact ⟨by simp, rfl⟩
  · have h' : (b == 0) = false := by simp [h]
    have h2 : 1 ≤ b := by omega
    go_enter Try.func46, Try.ntmps46
    go_wp2
    go_ret
    exact ⟨rfl, rfl⟩
set_option maxRecDepth 100000 in
theorem len_max64 (w : World) :
    Calls Try.prog 47 #[.int .u64 18446744073709551615] w fun e w' => e = .returned (.int .i64 64) ∧ w = w' := by
  go_enter Try.func47, Try.ntmps47
  go_wp2
  go_ret
  exact ⟨by kernel_rfl, rfl⟩
set_option maxRecDepth 100000 in
theorem len_max32 (w : World) :
    Calls Try.prog 47 #[.int .u64 4294967295] w fun e w' => e = .returned (.int .i64 32) ∧ w = w' := by
  go_enter Try.func47, Try.ntmps47
  go_wp2
  go_ret
  exact ⟨by kernel_rfl, rfl⟩
theorem count64 (b : Int) (w : World) (b0 : 0 ≤ b) (b1 : b ≤ 18446744073709551615) :
    Calls Try.prog 42 #[.int .u64 b] w fun e w' => e = .returned (.int .u64 (b % 64)) ∧ w = w' := by
  go_enter Try.func42, Try.ntmps42
  go_wp2_with (go_at_call 47; refine (len_max64 _).mono ?_; rintro e w' ⟨rfl, rfl⟩)
  go_ret
  exact ⟨rfl, rfl⟩
theorem count32 (b : Int) (w : World) (b0 : 0 ≤ b) (b1 : b ≤ 4294967295) :
    Calls Try.prog 45 #[.int .u32 b] w fun e w' => e = .returned (.int .u32 (b % 32)) ∧ w = w' := by
  go_enter Try.func45, Try.ntmps45
  go_wp2_with (go_at_call 47; refine (len_max32 _).mono ?_; rintro e w' ⟨rfl, rfl⟩)
  go_ret
  exact ⟨rfl, rfl⟩
end Go.Proofs.Ytdkaccfombbdkaa.WordA
