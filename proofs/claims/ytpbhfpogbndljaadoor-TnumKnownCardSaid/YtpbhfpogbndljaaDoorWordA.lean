/-
  Contracts of package word's functions on numbers alone: Alu, Jump and what they call.
-/
import Derived.Test.YtpbhfpogbndljaaDoorRows
import Derived.Test.YtpbhfpogbndljaaDoorNum
import Derived.WalkKit
import Derived.WalkSpells
import Derived.WalkLawsBesides
namespace Go.Proofs.YtpbhfpogbndljaaDoor.WordA
open Go.RowKit Go.Proofs.YtpbhfpogbndljaaDoor.Num
theorem quo64 (a b : Int) (w : World) (a0 : 0 ≤ a) (a1 : a ≤ 18446744073709551615) (b0 : 0 ≤ b) (b1 : b ≤ 18446744073709551615) :
    Calls Tryd.prog 52 #[.int .u64 a, .int .u64 b] w fun e w' => e = .returned (.int .u64 (tn (b64 a / b64 b))) ∧ w = w' := by
  rw [← div64 a b a0 a1 b0 b1]
  by_cases h : b = 0
  · subst h
    go_enter Tryd.func52, Tryd.ntmps52
    go_wp2
    go_ret
    exact ⟨by simp, rfl⟩
  · have h' : (b == 0) = false := by simp [h]
    have h2 : 1 ≤ b := by omega
    go_enter Tryd.func52, Tryd.ntmps52
    go_wp2
    go_ret
    exact ⟨rfl, rfl⟩
theorem quo32 (a b : Int) (w : World) (a0 : 0 ≤ a) (a1 : a ≤ 4294967295) (b0 : 0 ≤ b) (b1 : b ≤ 4294967295) :
    Calls Tryd.prog 55 #[.int .u32 a, .int .u32 b] w fun e w' => e = .returned (.int .u32 (tn (b32 a / b32 b))) ∧ w = w' := by
  rw [← div32 a b a0 a1 b0 b1]
  by_cases h : b = 0
  · subst h
    go_enter Tryd.func55, Tryd.ntmps55
    go_wp2
    go_ret
    exact ⟨by simp, rfl⟩
  · have h' : (b == 0) = false := by simp [h]
    have h2 : 1 ≤ b := by omega
    go_enter Tryd.func55, Tryd.ntmps55
    go_wp2
    go_ret
    exact ⟨rfl, rfl⟩
theorem rem64 (a b : Int) (w : World) (a0 : 0 ≤ a) (a1 : a ≤ 18446744073709551615) (b0 : 0 ≤ b) (b1 : b ≤ 18446744073709551615) :
    Calls Tryd.prog 54 #[.int .u64 a, .int .u64 b] w fun e w' => e = .returned (.int .u64 (tn (b64 a % b64 b))) ∧ w = w' := by
  rw [← mod64 a b a0 a1 b0 b1]
  by_cases h : b = 0
  · subst h
    go_enter Tryd.func54, Tryd.ntmps54
    go_wp2
    go_ret
    exact ⟨by simp, rfl⟩
  · have h' : (b == 0) = false := by simp [h]
    have h2 : 1 ≤ b := by omega
    go_enter Tryd.func54, Tryd.ntmps54
    go_wp2
    go_ret
    exact ⟨rfl, rfl⟩
theorem rem32 (a b : Int) (w : World) (a0 : 0 ≤ a) (a1 : a ≤ 4294967295) (b0 : 0 ≤ b) (b1 : b ≤ 4294967295) :
    Calls Tryd.prog 57 #[.int .u32 a, .int .u32 b] w fun e w' => e = .returned (.int .u32 (tn (b32 a % b32 b))) ∧ w = w' := by
  rw [← mod32 a b a0 a1 b0 b1]
  by_cases h : b = 0
  · subst h
    go_enter Tryd.func57, Tryd.ntmps57
    go_wp2
    go_ret
    exact ⟨by simp, rfl⟩
  · have h' : (b == 0) = false := by simp [h]
    have h2 : 1 ≤ b := by omega
    go_enter Tryd.func57, Tryd.ntmps57
    go_wp2
    go_ret
    exact ⟨rfl, rfl⟩
set_option maxRecDepth 100000 in
theorem len_max64 (w : World) :
    Calls Tryd.prog 58 #[.int .u64 18446744073709551615] w fun e w' => e = .returned (.int .i64 64) ∧ w = w' := by
  go_enter Tryd.func58, Tryd.ntmps58
  go_wp2
  go_ret
  exact ⟨by kernel_rfl, rfl⟩
set_option maxRecDepth 100000 in
theorem len_max32 (w : World) :
    Calls Tryd.prog 58 #[.int .u64 4294967295] w fun e w' => e = .returned (.int .i64 32) ∧ w = w' := by
  go_enter Tryd.func58, Tryd.ntmps58
  go_wp2
  go_ret
  exact ⟨by kernel_rfl, rfl⟩
theorem count64 (b : Int) (w : World) (b0 : 0 ≤ b) (b1 : b ≤ 18446744073709551615) :
    Calls Tryd.prog 53 #[.int .u64 b] w fun e w' => e = .returned (.int .u64 (b % 64)) ∧ w = w' := by
  go_enter Tryd.func53, Tryd.ntmps53
  go_wp2_with (go_at_call 58; refine (len_max64 _).mono ?_; rintro e w' ⟨rfl, rfl⟩)
  go_ret
  exact ⟨rfl, rfl⟩
theorem count32 (b : Int) (w : World) (b0 : 0 ≤ b) (b1 : b ≤ 4294967295) :
    Calls Tryd.prog 56 #[.int .u32 b] w fun e w' => e = .returned (.int .u32 (b % 32)) ∧ w = w' := by
  go_enter Tryd.func56, Tryd.ntmps56
  go_wp2_with (go_at_call 58; refine (len_max32 _).mono ?_; rintro e w' ⟨rfl, rfl⟩)
  go_ret
  exact ⟨rfl, rfl⟩
end Go.Proofs.YtpbhfpogbndljaaDoor.WordA
