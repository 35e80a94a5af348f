/-
  Contracts of what the word laws call: alu, is, works.
-/
import Derived.Test.YtdkaccfombbdkaaWordD
import Derived.Test.YtdkaccfombbdkaaSwap
import Derived.Test.YtdkaccfombbdkaaBytesA
namespace Go.Proofs.Ytdkaccfombbdkaa.Law
open Go.RowKit Go.Proofs.Ytdkaccfombbdkaa.Num
theorem alu_yes (op : Int) (wide : Bool) (a b : Int) (w : World) (h : aluIs op = true) (a0 : 0 ≤ a) (a1 : a ≤ 18446744073709551615) (b0 : 0 ≤ b) (b1 : b ≤ 18446744073709551615) :
    Calls Try.prog 23 #[.int .i64 op, .bool wide, .int .u64 a, .int .u64 b] w fun e w' => e = .returned (.int .u64 (aluA op wide a b)) ∧ w = w' := by
  have H := WordA.alu_any op wide a b w a0 a1 b0 b1
  rw [h] at H
  have K := hid H; clear H h
  go_enter Try.func23, Try.ntmps23
  go_wp2_with (go_at_call 10; refine K.out.mono ?_; rintro e w' ⟨rfl, rfl⟩)
  go_ret
  exact ⟨rfl, rfl⟩
theorem is_yes (op : Int) (wide : Bool) (a b : Int) (w : World) (h : jmpIs op = true) (a0 : 0 ≤ a) (a1 : a ≤ 18446744073709551615) (b0 : 0 ≤ b) (b1 : b ≤ 18446744073709551615) :
    Calls Try.prog 24 #[.int .i64 op, .bool wide, .int .u64 a, .int .u64 b] w fun e w' => e = .returned (.bool (jmpA op wide a b)) ∧ w = w' := by
  have H := WordA.jump_any op wide a b w a0 a1 b0 b1
  rw [h] at H
  cases hj : jmpA op wide a b
  all_goals
    rw [hj] at H
    have K := hid H; clear H h hj
    go_enter Try.func24, Try.ntmps24
    go_wp2_with (go_at_call 13; refine K.out.mono ?_; rintro e w' ⟨rfl, rfl⟩)
    go_ret
    exact ⟨rfl, rfl⟩
theorem wk1 : aluA 0 false 4294967295 2 = 1 := by decide
theorem wk2 : aluA 16 true 0 1 = 18446744073709551615 := by decide
theorem wk3 : aluA 192 false 2147483648 33 = 3221225472 := by decide
theorem wk4 : jmpA 96 false 1 2147483648 = true := by decide
theorem wk5 : jmpA 96 true 1 2147483648 = false := by decide
theorem wk6 : swapA 16 true 287454020 = 17459 := by decide
theorem wk7 : leV (fun j => (([1, 2, 3] : List Int).getD ((1 : Int).toNat + j) 0).toNat) (2 : Int).toNat = 770 := by decide
theorem works_any (w : World) :
    Calls Try.prog 12 #[] w fun e w' => e = .returned (.bool true) ∧ Below w.heap.size w w' := by
  go_enter Try.func12, Try.ntmps12
  go_wp2_with fail
  refine (Bytes.get_yes _ _ 3 _ [1, 2, 3] 1 2 _ (by omega) rfl ?_ rfl).mono ?_
  · refine ⟨fun i hi => ?_, fun i => ?_⟩
    · match i, hi with
      | 0, _ => simp
      | 1, _ => simp
      | 2, _ => simp
    · match i with
      | 0 => decide
      | 1 => decide
      | 2 => decide
      | _ + 3 => simp
  rintro e w' ⟨rfl, rfl⟩
  rw [wk7]
  go_wp2_with fail
  refine (Swap.wswap_any _ _ _ _ (by omega) (by omega)).mono ?_
  rintro e w' ⟨rfl, rfl⟩
  rw [wk6]
  go_wp2_with fail
  refine (alu_yes _ _ _ _ _ rfl (by omega) (by omega) (by omega) (by omega)).mono ?_
  rintro e w' ⟨rfl, rfl⟩
  rw [wk1]
  go_wp2_with fail
  refine (alu_yes _ _ _ _ _ rfl (by omega) (by omega) (by omega) (by omega)).mono ?_
  rintro e w' ⟨rfl, rfl⟩
  rw [wk2]
  go_wp2_with fail
  refine (alu_yes _ _ _ _ _ rfl (by omega) (by omega) (by omega) (by omega)).mono ?_
  rintro e w' ⟨rfl, rfl⟩
  rw [wk3]
  go_wp2_with fail
  refine (is_yes _ _ _ _ _ rfl (by omega) (by omega) (by omega) (by omega)).mono ?_
  rintro e w' ⟨rfl, rfl⟩
  rw [wk4]
  go_wp2_with fail
  refine (is_yes _ _ _ _ _ rfl (by omega) (by omega) (by omega) (by omega)).mono ?_
  rintro e w' ⟨rfl, rfl⟩
  rw [wk5]
  go_wp2_with fail
  go_ret
  exact ⟨rfl, (Below.refl _ _).alloc (Nat.le_refl _) _⟩
end Go.Proofs.Ytdkaccfombbdkaa.Law
