/-
  Contracts of package word's functions on numbers alone: Alu, Jump and what they call.
-/
import Derived.Test.YtmcapfbkedfdkaaGreatDoorRows
import Derived.Test.YtmcapfbkedfdkaaGreatDoorNum
import Derived.WalkKit
import Derived.WalkSpells
import Derived.WalkLawsBesides
namespace Go.Proofs.YtmcapfbkedfdkaaGreatDoor.WordA
open Go.RowKit Go.Proofs.YtmcapfbkedfdkaaGreatDoor.Num
theorem quo64 (a b : Int) (w : World) (a0 : 0 ≤ a) (a1 : a ≤ 18446744073709551615) (b0 : 0 ≤ b) (b1 : b ≤ 18446744073709551615) :
  Calls Tryz.prog 78 #[.int .u64 a, .int .u64 b] w fun e w' => e = .returned (.int .u64 (tn (b64 a / b64 b))) ∧ w = w' := by
 rw [← div64 a b a0 a1 b0 b1]
 by_cases h : b = 0
 ·subst h
  go_enter Tryz.func78, Tryz.ntmps78
  go_wp2
  go_ret
  exact ⟨by simp, rfl⟩
 ·have h' : (b == 0) = false := by simp [h]
  have h2 : 1 ≤ b := by omega
  go_enter Tryz.func78, Tryz.ntmps78
  go_wp2
  go_ret
  exact ⟨rfl, rfl⟩
theorem quo32 (a b : Int) (w : World) (a0 : 0 ≤ a) (a1 : a ≤ 4294967295) (b0 : 0 ≤ b) (b1 : b ≤ 4294967295) :
  Calls Tryz.prog 81 #[.int .u32 a, .int .u32 b] w fun e w' => e = .returned (.int .u32 (tn (b32 a / b32 b))) ∧ w = w' := by
 rw [← div32 a b a0 a1 b0 b1]
 by_cases h : b = 0
 ·subst h
  go_enter Tryz.func81, Tryz.ntmps81
  go_wp2
  go_ret
  exact ⟨by simp, rfl⟩
 ·have h' : (b == 0) = false := by simp [h]
  have h2 : 1 ≤ b := by omega
  go_enter Tryz.func81, Tryz.ntmps81
  go_wp2
  go_ret
  exact ⟨rfl, rfl⟩
theorem rem64 (a b : Int) (w : World) (a0 : 0 ≤ a) (a1 : a ≤ 18446744073709551615) (b0 : 0 ≤ b) (b1 : b ≤ 18446744073709551615) :
  Calls Tryz.prog 80 #[.int .u64 a, .int .u64 b] w fun e w' => e = .returned (.int .u64 (tn (b64 a % b64 b))) ∧ w = w' := by
 rw [← mod64 a b a0 a1 b0 b1]
 by_cases h : b = 0
 ·subst h
  go_enter Tryz.func80, Tryz.ntmps80
  go_wp2
  go_ret
  exact ⟨by simp, rfl⟩
 ·have h' : (b == 0) = false := by simp [h]
  have h2 : 1 ≤ b := by omega
  go_enter Tryz.func80, Tryz.ntmps80
  go_wp2
  go_ret
  exact ⟨rfl, rfl⟩
theorem rem32 (a b : Int) (w : World) (a0 : 0 ≤ a) (a1 : a ≤ 4294967295) (b0 : 0 ≤ b) (b1 : b ≤ 4294967295) :
  Calls Tryz.prog 83 #[.int .u32 a, .int .u32 b] w fun e w' => e = .returned (.int .u32 (tn (b32 a % b32 b))) ∧ w = w' := by
 rw [← mod32 a b a0 a1 b0 b1]
 by_cases h : b = 0
 ·subst h
  go_enter Tryz.func83, Tryz.ntmps83
  go_wp2
  go_ret
  exact ⟨by simp, rfl⟩
 ·have h' : (b == 0) = false := by simp [h]
  have h2 : 1 ≤ b := by omega
  go_enter Tryz.func83, Tryz.ntmps83
  go_wp2
  go_ret
  exact ⟨rfl, rfl⟩
set_option maxRecDepth 100000 in
theorem len_max64 (w : World) :
  Calls Tryz.prog 123 #[.int .u64 18446744073709551615] w fun e w' => e = .returned (.int .i64 64) ∧ w = w' := by
 go_enter Tryz.func123, Tryz.ntmps123
 go_wp2
 go_ret
 exact ⟨by kernel_rfl, rfl⟩
set_option maxRecDepth 100000 in
theorem len_max32 (w : World) :
  Calls Tryz.prog 123 #[.int .u64 4294967295] w fun e w' => e = .returned (.int .i64 32) ∧ w = w' := by
 go_enter Tryz.func123, Tryz.ntmps123
 go_wp2
 go_ret
 exact ⟨by kernel_rfl, rfl⟩
theorem count64 (b : Int) (w : World) (b0 : 0 ≤ b) (b1 : b ≤ 18446744073709551615) :
  Calls Tryz.prog 79 #[.int .u64 b] w fun e w' => e = .returned (.int .u64 (b % 64)) ∧ w = w' := by
 go_enter Tryz.func79, Tryz.ntmps79
 go_wp2_with (go_at_call 123; refine (len_max64 _).mono ?_; rintro e w' ⟨rfl, rfl⟩)
 go_ret
 exact ⟨rfl, rfl⟩
theorem count32 (b : Int) (w : World) (b0 : 0 ≤ b) (b1 : b ≤ 4294967295) :
  Calls Tryz.prog 82 #[.int .u32 b] w fun e w' => e = .returned (.int .u32 (b % 32)) ∧ w = w' := by
 go_enter Tryz.func82, Tryz.ntmps82
 go_wp2_with (go_at_call 123; refine (len_max32 _).mono ?_; rintro e w' ⟨rfl, rfl⟩)
 go_ret
 exact ⟨rfl, rfl⟩
end Go.Proofs.YtmcapfbkedfdkaaGreatDoor.WordA
