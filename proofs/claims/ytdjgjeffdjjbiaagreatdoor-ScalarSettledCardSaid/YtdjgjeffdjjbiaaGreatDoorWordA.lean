/-
  Contracts of package word's functions on numbers alone: Alu, Jump and what they call.
-/
import Derived.Test.YtdjgjeffdjjbiaaGreatDoorRows
import Derived.Test.YtdjgjeffdjjbiaaGreatDoorNum
import Derived.WalkKit
import Derived.WalkSpells
import Derived.WalkLawsBesides
namespace Go.Proofs.YtdjgjeffdjjbiaaGreatDoor.WordA
open Go.RowKit Go.Proofs.YtdjgjeffdjjbiaaGreatDoor.Num
theorem quo64 (a b : Int) (w : World) (a0 : 0 ≤ a) (a1 : a ≤ 18446744073709551615) (b0 : 0 ≤ b) (b1 : b ≤ 18446744073709551615) :
    Calls Tryz.prog 171 #[.int .u64 a, .int .u64 b] w fun e w' => e = .returned (.int .u64 (tn (b64 a / b64 b))) ∧ w = w' := by
  rw [← div64 a b a0 a1 b0 b1]
  by_cases h : b = 0
  · subst h
    go_enter Tryz.func171, Tryz.ntmps171
    go_wp2
    go_ret
    exact ⟨by simp, rfl⟩
  · have h' : (b == 0) = false := by simp [h]
    have h2 : 1 ≤ b := by omega
    go_enter Tryz.func171, Tryz.ntmps171
    go_wp2
    go_ret
    exact ⟨rfl, rfl⟩
theorem quo32 (a b : Int) (w : World) (a0 : 0 ≤ a) (a1 : a ≤ 4294967295) (b0 : 0 ≤ b) (b1 : b ≤ 4294967295) :
    Calls Tryz.prog 174 #[.int .u32 a, .int .u32 b] w fun e w' => e = .returned (.int .u32 (tn (b32 a / b32 b))) ∧ w = w' := by
  rw [← div32 a b a0 a1 b0 b1]
  by_cases h : b = 0
  · subst h
    go_enter Tryz.func174, Tryz.ntmps174
    go_wp2
    go_ret
    exact ⟨by simp, rfl⟩
  · have h' : (b == 0) = false := by simp [h]
    have h2 : 1 ≤ b := by omega
    go_enter Tryz.func174, Tryz.ntmps174
    go_wp2
    go_ret
    exact ⟨rfl, rfl⟩
theorem rem64 (a b : Int) (w : World) (a0 : 0 ≤ a) (a1 : a ≤ 18446744073709551615) (b0 : 0 ≤ b) (b1 : b ≤ 18446744073709551615) :
    Calls Tryz.prog 173 #[.int .u64 a, .int .u64 b] w fun e w' => e = .returned (.int .u64 (tn (b64 a % b64 b))) ∧ w = w' := by
  rw [← mod64 a b a0 a1 b0 b1]
  by_cases h : b = 0
  · subst h
    go_enter Tryz.func173, Tryz.ntmps173
    go_wp2
    go_ret
    exact ⟨by simp, rfl⟩
  · have h' : (b == 0) = false := by simp [h]
    have h2 : 1 ≤ b := by omega
    go_enter Tryz.func173, Tryz.ntmps173
    go_wp2
    go_ret
    exact ⟨rfl, rfl⟩
theorem rem32 (a b : Int) (w : World) (a0 : 0 ≤ a) (a1 : a ≤ 4294967295) (b0 : 0 ≤ b) (b1 : b ≤ 4294967295) :
    Calls Tryz.prog 176 #[.int .u32 a, .int .u32 b] w fun e w' => e = .returned (.int .u32 (tn (b32 a % b32 b))) ∧ w = w' := by
  rw [← mod32 a b a0 a1 b0 b1]
  by_cases h : b = 0
  · subst h
    go_enter Tryz.func176, Tryz.ntmps176
    go_wp2
    go_ret
    exact ⟨by simp, rfl⟩
  · have h' : (b == 0) = false := by simp [h]
    have h2 : 1 ≤ b := by omega
    go_enter Tryz.func176, Tryz.ntmps176
    go_wp2
    go_ret
    exact ⟨rfl, rfl⟩
set_option maxRecDepth 100000 in
theorem len_max64 (w : World) :
    Calls Tryz.prog 177 #[.int .u64 18446744073709551615] w fun e w' => e = .returned (.int .i64 64) ∧ w = w' := by
  go_enter Tryz.func177, Tryz.ntmps177
  go_wp2
  go_ret
  exact ⟨by kernel_rfl, rfl⟩
set_option maxRecDepth 100000 in
theorem len_max32 (w : World) :
    Calls Tryz.prog 177 #[.int .u64 4294967295] w fun e w' => e = .returned (.int .i64 32) ∧ w = w' := by
  go_enter Tryz.func177, Tryz.ntmps177
  go_wp2
  go_ret
  exact ⟨by kernel_rfl, rfl⟩
theorem count64 (b : Int) (w : World) (b0 : 0 ≤ b) (b1 : b ≤ 18446744073709551615) :
    Calls Tryz.prog 172 #[.int .u64 b] w fun e w' => e = .returned (.int .u64 (b % 64)) ∧ w = w' := by
  go_enter Tryz.func172, Tryz.ntmps172
  go_wp2_with (go_at_call 177; refine (len_max64 _).mono ?_; rintro e w' ⟨rfl, rfl⟩)
  go_ret
  exact ⟨rfl, rfl⟩
theorem count32 (b : Int) (w : World) (b0 : 0 ≤ b) (b1 : b ≤ 4294967295) :
    Calls Tryz.prog 175 #[.int .u32 b] w fun e w' => e = .returned (.int .u32 (b % 32)) ∧ w = w' := by
  go_enter Tryz.func175, Tryz.ntmps175
  go_wp2_with (go_at_call 177; refine (len_max32 _).mono ?_; rintro e w' ⟨rfl, rfl⟩)
  go_ret
  exact ⟨rfl, rfl⟩
end Go.Proofs.YtdjgjeffdjjbiaaGreatDoor.WordA
