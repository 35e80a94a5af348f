/-
  Contracts of word.Alu and word.Jump.
-/
import Derived.Test.YtmcapfbkedfdkaaGreatDoorWordB
import Derived.Test.YtmcapfbkedfdkaaGreatDoorWordC
namespace Go.Proofs.YtmcapfbkedfdkaaGreatDoor.WordA
open Go.RowKit Go.Proofs.YtmcapfbkedfdkaaGreatDoor.Num
theorem alu_any (op : Int) (wide : Bool) (a b : Int) (w : World) (a0 : 0 ≤ a) (a1 : a ≤ 18446744073709551615) (b0 : 0 ≤ b) (b1 : b ≤ 18446744073709551615) :
  Calls Tryz.prog 11 #[.int .i64 op, .bool wide, .int .u64 a, .int .u64 b] w fun e w' => e = .returned (.tuple #[.int .u64 (aluA op wide a b), .bool (aluIs op)]) ∧ w = w' := by
 cases wide
 ·go_enter Tryz.func11, Tryz.ntmps11
  go_wp2_with fail
  refine (oper32 _ _ _ _ (by omega) (by omega) (by omega) (by omega)).mono ?_
  rintro e w' ⟨rfl, rfl⟩
  have lo := tn_lo (aluV 32 op (b32 (a % 4294967296)) (b32 (b % 4294967296)))
  have hi := tn_hi32 (aluV 32 op (b32 (a % 4294967296)) (b32 (b % 4294967296)))
  go_wp2
  go_ret2
  exact ⟨by rw [b32_mod, b32_mod]; rfl, rfl⟩
 ·go_enter Tryz.func11, Tryz.ntmps11
  go_wp2_with fail
  refine (oper64 _ _ _ _ (by omega) (by omega) (by omega) (by omega)).mono ?_
  rintro e w' ⟨rfl, rfl⟩
  go_wp2
  go_ret2
  exact ⟨rfl, rfl⟩
theorem jump_any (op : Int) (wide : Bool) (a b : Int) (w : World) (a0 : 0 ≤ a) (a1 : a ≤ 18446744073709551615) (b0 : 0 ≤ b) (b1 : b ≤ 18446744073709551615) :
  Calls Tryz.prog 13 #[.int .i64 op, .bool wide, .int .u64 a, .int .u64 b] w fun e w' => e = .returned (.tuple #[.bool (jmpA op wide a b), .bool (jmpIs op)]) ∧ w = w' := by
 cases wide
 ·go_enter Tryz.func13, Tryz.ntmps13
  go_wp2_with fail
  refine (comp32 _ _ _ _ (by omega) (by omega) (by omega) (by omega)).mono ?_
  rintro e w' ⟨rfl, rfl⟩
  go_wp2
  go_ret2
  exact ⟨by rw [b32_mod, b32_mod]; rfl, rfl⟩
 ·go_enter Tryz.func13, Tryz.ntmps13
  go_wp2_with fail
  refine (comp64 _ _ _ _ (by omega) (by omega) (by omega) (by omega)).mono ?_
  rintro e w' ⟨rfl, rfl⟩
  go_wp2
  go_ret2
  exact ⟨rfl, rfl⟩
end Go.Proofs.YtmcapfbkedfdkaaGreatDoor.WordA
