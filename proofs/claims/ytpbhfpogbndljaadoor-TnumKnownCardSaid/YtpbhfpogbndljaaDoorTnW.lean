/-
  The contract of word.Alu, wide.
-/
import Derived.Test.YtpbhfpogbndljaaDoorWordB
namespace Go.Proofs.YtpbhfpogbndljaaDoor.WordA
open Go.RowKit Go.Proofs.YtpbhfpogbndljaaDoor.Num
theorem alu_wide (op : Int) (a b : Int) (w : World) (a0 : 0 ≤ a) (a1 : a ≤ 18446744073709551615) (b0 : 0 ≤ b) (b1 : b ≤ 18446744073709551615) :
    Calls Tryd.prog 36 #[.int .i64 op, .bool true, .int .u64 a, .int .u64 b] w fun e w' => e = .returned (.tuple #[.int .u64 (aluA op true a b), .bool (aluIs op)]) ∧ w = w' := by
  go_enter Tryd.func36, Tryd.ntmps36
  go_wp2_with fail
  refine (oper64 _ _ _ _ (by omega) (by omega) (by omega) (by omega)).mono ?_
  rintro e w' ⟨rfl, rfl⟩
  go_wp2
  go_ret2
  exact ⟨rfl, rfl⟩
end Go.Proofs.YtpbhfpogbndljaaDoor.WordA
