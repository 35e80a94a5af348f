/-
  The walk of the law WordRing: numbers of 64 bits, and of 32, are a ring.
-/
import Derived.Test.YtdkaccfombbdkaaLawA
namespace Go.Proofs.Ytdkaccfombbdkaa.Law
open Go.RowKit Go.Proofs.Ytdkaccfombbdkaa.Num

theorem r1 (wide : Bool) (a b : Int) : aluA 0 wide b a = aluA 0 wide a b := by
  cases wide
  · simp only [aluA, Bool.false_eq_true, if_false]
    show tn (b32 b + b32 a) = tn (b32 a + b32 b); rw [BitVec.add_comm]
  · simp only [aluA, if_true]
    show tn (b64 b + b64 a) = tn (b64 a + b64 b); rw [BitVec.add_comm]
theorem r2 (wide : Bool) (a b : Int) : aluA 16 wide (aluA 0 wide a b) b = aluA 176 wide 0 a := by
  cases wide
  · simp only [aluA, Bool.false_eq_true, if_false, b32_tn]
    show tn ((b32 a + b32 b) - b32 b) = tn (b32 a); rw [BitVec.add_sub_cancel]
  · simp only [aluA, if_true, b64_tn]
    show tn ((b64 a + b64 b) - b64 b) = tn (b64 a); rw [BitVec.add_sub_cancel]
theorem r3 (wide : Bool) (a b c : Int) : aluA 32 wide a (aluA 0 wide b c) = aluA 0 wide (aluA 32 wide a b) (aluA 32 wide a c) := by
  cases wide
  · simp only [aluA, Bool.false_eq_true, if_false, b32_tn]
    show tn (b32 a * (b32 b + b32 c)) = tn (b32 a * b32 b + b32 a * b32 c); rw [BitVec.mul_add]
  · simp only [aluA, if_true, b64_tn]
    show tn (b64 a * (b64 b + b64 c)) = tn (b64 a * b64 b + b64 a * b64 c); rw [BitVec.mul_add]
theorem r4 (wide : Bool) (a b : Int) : aluA 0 wide (aluA 64 wide a b) (aluA 80 wide a b) = aluA 0 wide a b := by
  cases wide
  · simp only [aluA, Bool.false_eq_true, if_false, b32_tn]
    show tn ((b32 a ||| b32 b) + (b32 a &&& b32 b)) = tn (b32 a + b32 b); rw [or_and_addB]
  · simp only [aluA, if_true, b64_tn]
    show tn ((b64 a ||| b64 b) + (b64 a &&& b64 b)) = tn (b64 a + b64 b); rw [or_and_addB]
theorem r5 (wide : Bool) (a b : Int) : aluA 160 wide (aluA 160 wide a b) b = aluA 176 wide 0 a := by
  cases wide
  · simp only [aluA, Bool.false_eq_true, if_false, b32_tn]
    show tn ((b32 a ^^^ b32 b) ^^^ b32 b) = tn (b32 a); rw [BitVec.xor_assoc, BitVec.xor_self, BitVec.xor_zero]
  · simp only [aluA, if_true, b64_tn]
    show tn ((b64 a ^^^ b64 b) ^^^ b64 b) = tn (b64 a); rw [BitVec.xor_assoc, BitVec.xor_self, BitVec.xor_zero]
theorem r6 (wide : Bool) (a b c : Int) : aluA 128 wide (aluA 128 wide a b) c = aluA 176 wide 0 a := by
  cases wide
  · simp only [aluA, Bool.false_eq_true, if_false, b32_tn]
    show tn (- (- b32 a)) = tn (b32 a); rw [BitVec.neg_neg]
  · simp only [aluA, if_true, b64_tn]
    show tn (- (- b64 a)) = tn (b64 a); rw [BitVec.neg_neg]
theorem r7 (wide : Bool) (a b : Int) : aluA 0 wide (aluA 32 wide (aluA 48 wide a b) b) (aluA 144 wide a b) = aluA 176 wide 0 a := by
  cases wide
  · simp only [aluA, Bool.false_eq_true, if_false, b32_tn]
    show tn ((b32 a / b32 b) * b32 b + b32 a % b32 b) = tn (b32 a); rw [div_mod]
  · simp only [aluA, if_true, b64_tn]
    show tn ((b64 a / b64 b) * b64 b + b64 a % b64 b) = tn (b64 a); rw [div_mod]
theorem cnt_64 (c : Int) : (b64 (c % 64)).toNat % 64 = (b64 c).toNat % 64 := by
  unfold b64; rw [BitVec.toNat_ofInt, BitVec.toNat_ofInt]; omega
theorem r8_64 (a c : Int) : aluA 96 true a c = aluA 32 true a (aluA 96 true 1 (c % 64)) := by
  simp only [aluA, if_true, b64_tn]
  show tn (b64 a <<< ((b64 c).toNat % 64)) = tn (b64 a * (b64 1 <<< ((b64 (c % 64)).toNat % 64)))
  rw [cnt_64 c, shl_mul (b64 a)]; rfl
theorem r9_64 (a c : Int) : aluA 112 true a c = aluA 48 true a (aluA 96 true 1 (c % 64)) := by
  simp only [aluA, if_true, b64_tn]
  show tn (b64 a >>> ((b64 c).toNat % 64)) = tn (b64 a / (b64 1 <<< ((b64 (c % 64)).toNat % 64)))
  rw [cnt_64 c, shr_div (b64 a) _ (Nat.mod_lt _ (by decide))]; rfl
theorem cnt_32 (c : Int) : (b32 (c % 32)).toNat % 32 = (b32 c).toNat % 32 := by
  unfold b32; rw [BitVec.toNat_ofInt, BitVec.toNat_ofInt]; omega
theorem r8_32 (a c : Int) : aluA 96 false a c = aluA 32 false a (aluA 96 false 1 (c % 32)) := by
  simp only [aluA, Bool.false_eq_true, if_false, b32_tn]
  show tn (b32 a <<< ((b32 c).toNat % 32)) = tn (b32 a * (b32 1 <<< ((b32 (c % 32)).toNat % 32)))
  rw [cnt_32 c, shl_mul (b32 a)]; rfl
theorem r9_32 (a c : Int) : aluA 112 false a c = aluA 48 false a (aluA 96 false 1 (c % 32)) := by
  simp only [aluA, Bool.false_eq_true, if_false, b32_tn]
  show tn (b32 a >>> ((b32 c).toNat % 32)) = tn (b32 a / (b32 1 <<< ((b32 (c % 32)).toNat % 32)))
  rw [cnt_32 c, shr_div (b32 a) _ (Nat.mod_lt _ (by decide))]; rfl
set_option maxHeartbeats 1000000 in
theorem wordRing_32 (a b c : Int) (w : World) (a0 : 0 ≤ a) (a1 : a ≤ 18446744073709551615) (b0 : 0 ≤ b) (b1 : b ≤ 18446744073709551615) (c0 : 0 ≤ c) (c1 : c ≤ 18446744073709551615) :
    Calls Try.prog 6 #[.bool false, .int .u64 a, .int .u64 b, .int .u64 c] w fun e w' => e = .returned (.bool true) ∧ Below w.heap.size w w' := by
  go_enter Try.func6, Try.ntmps6
  go_wp2_with fail
  refine (alu_yes _ _ _ _ _ rfl (by first | omega | exact aluA_lo _ _ _ _) (by first | omega | exact aluA_hi _ _ _ _) (by first | omega | exact aluA_lo _ _ _ _) (by first | omega | exact aluA_hi _ _ _ _)).mono ?_
  rintro e w' ⟨rfl, rfl⟩
  go_wp2_with fail
  refine (alu_yes _ _ _ _ _ rfl (by first | omega | exact aluA_lo _ _ _ _) (by first | omega | exact aluA_hi _ _ _ _) (by first | omega | exact aluA_lo _ _ _ _) (by first | omega | exact aluA_hi _ _ _ _)).mono ?_
  rintro e w' ⟨rfl, rfl⟩
  go_wp2_with fail
  refine (alu_yes _ _ _ _ _ rfl (by first | omega | exact aluA_lo _ _ _ _) (by first | omega | exact aluA_hi _ _ _ _) (by first | omega | exact aluA_lo _ _ _ _) (by first | omega | exact aluA_hi _ _ _ _)).mono ?_
  rintro e w' ⟨rfl, rfl⟩
  rw [r1]
  go_wp2_with fail
  refine (alu_yes _ _ _ _ _ rfl (by first | omega | exact aluA_lo _ _ _ _) (by first | omega | exact aluA_hi _ _ _ _) (by first | omega | exact aluA_lo _ _ _ _) (by first | omega | exact aluA_hi _ _ _ _)).mono ?_
  rintro e w' ⟨rfl, rfl⟩
  go_wp2_with fail
  refine (alu_yes _ _ _ _ _ rfl (by first | omega | exact aluA_lo _ _ _ _) (by first | omega | exact aluA_hi _ _ _ _) (by first | omega | exact aluA_lo _ _ _ _) (by first | omega | exact aluA_hi _ _ _ _)).mono ?_
  rintro e w' ⟨rfl, rfl⟩
  rw [r2]
  go_wp2_with fail
  refine (alu_yes _ _ _ _ _ rfl (by first | omega | exact aluA_lo _ _ _ _) (by first | omega | exact aluA_hi _ _ _ _) (by first | omega | exact aluA_lo _ _ _ _) (by first | omega | exact aluA_hi _ _ _ _)).mono ?_
  rintro e w' ⟨rfl, rfl⟩
  go_wp2_with fail
  refine (alu_yes _ _ _ _ _ rfl (by first | omega | exact aluA_lo _ _ _ _) (by first | omega | exact aluA_hi _ _ _ _) (by first | omega | exact aluA_lo _ _ _ _) (by first | omega | exact aluA_hi _ _ _ _)).mono ?_
  rintro e w' ⟨rfl, rfl⟩
  rw [r3]
  go_wp2_with fail
  refine (alu_yes _ _ _ _ _ rfl (by first | omega | exact aluA_lo _ _ _ _) (by first | omega | exact aluA_hi _ _ _ _) (by first | omega | exact aluA_lo _ _ _ _) (by first | omega | exact aluA_hi _ _ _ _)).mono ?_
  rintro e w' ⟨rfl, rfl⟩
  go_wp2_with fail
  refine (alu_yes _ _ _ _ _ rfl (by first | omega | exact aluA_lo _ _ _ _) (by first | omega | exact aluA_hi _ _ _ _) (by first | omega | exact aluA_lo _ _ _ _) (by first | omega | exact aluA_hi _ _ _ _)).mono ?_
  rintro e w' ⟨rfl, rfl⟩
  go_wp2_with fail
  refine (alu_yes _ _ _ _ _ rfl (by first | omega | exact aluA_lo _ _ _ _) (by first | omega | exact aluA_hi _ _ _ _) (by first | omega | exact aluA_lo _ _ _ _) (by first | omega | exact aluA_hi _ _ _ _)).mono ?_
  rintro e w' ⟨rfl, rfl⟩
  go_wp2_with fail
  refine (alu_yes _ _ _ _ _ rfl (by first | omega | exact aluA_lo _ _ _ _) (by first | omega | exact aluA_hi _ _ _ _) (by first | omega | exact aluA_lo _ _ _ _) (by first | omega | exact aluA_hi _ _ _ _)).mono ?_
  rintro e w' ⟨rfl, rfl⟩
  go_wp2_with fail
  refine (alu_yes _ _ _ _ _ rfl (by first | omega | exact aluA_lo _ _ _ _) (by first | omega | exact aluA_hi _ _ _ _) (by first | omega | exact aluA_lo _ _ _ _) (by first | omega | exact aluA_hi _ _ _ _)).mono ?_
  rintro e w' ⟨rfl, rfl⟩
  go_wp2_with fail
  refine (alu_yes _ _ _ _ _ rfl (by first | omega | exact aluA_lo _ _ _ _) (by first | omega | exact aluA_hi _ _ _ _) (by first | omega | exact aluA_lo _ _ _ _) (by first | omega | exact aluA_hi _ _ _ _)).mono ?_
  rintro e w' ⟨rfl, rfl⟩
  rw [r4]
  go_wp2_with fail
  refine (alu_yes _ _ _ _ _ rfl (by first | omega | exact aluA_lo _ _ _ _) (by first | omega | exact aluA_hi _ _ _ _) (by first | omega | exact aluA_lo _ _ _ _) (by first | omega | exact aluA_hi _ _ _ _)).mono ?_
  rintro e w' ⟨rfl, rfl⟩
  go_wp2_with fail
  refine (alu_yes _ _ _ _ _ rfl (by first | omega | exact aluA_lo _ _ _ _) (by first | omega | exact aluA_hi _ _ _ _) (by first | omega | exact aluA_lo _ _ _ _) (by first | omega | exact aluA_hi _ _ _ _)).mono ?_
  rintro e w' ⟨rfl, rfl⟩
  go_wp2_with fail
  refine (alu_yes _ _ _ _ _ rfl (by first | omega | exact aluA_lo _ _ _ _) (by first | omega | exact aluA_hi _ _ _ _) (by first | omega | exact aluA_lo _ _ _ _) (by first | omega | exact aluA_hi _ _ _ _)).mono ?_
  rintro e w' ⟨rfl, rfl⟩
  rw [r5]
  go_wp2_with fail
  refine (alu_yes _ _ _ _ _ rfl (by first | omega | exact aluA_lo _ _ _ _) (by first | omega | exact aluA_hi _ _ _ _) (by first | omega | exact aluA_lo _ _ _ _) (by first | omega | exact aluA_hi _ _ _ _)).mono ?_
  rintro e w' ⟨rfl, rfl⟩
  go_wp2_with fail
  refine (alu_yes _ _ _ _ _ rfl (by first | omega | exact aluA_lo _ _ _ _) (by first | omega | exact aluA_hi _ _ _ _) (by first | omega | exact aluA_lo _ _ _ _) (by first | omega | exact aluA_hi _ _ _ _)).mono ?_
  rintro e w' ⟨rfl, rfl⟩
  rw [r6]
  go_wp2_with fail
  refine (alu_yes _ _ _ _ _ rfl (by first | omega | exact aluA_lo _ _ _ _) (by first | omega | exact aluA_hi _ _ _ _) (by first | omega | exact aluA_lo _ _ _ _) (by first | omega | exact aluA_hi _ _ _ _)).mono ?_
  rintro e w' ⟨rfl, rfl⟩
  go_wp2_with fail
  refine (alu_yes _ _ _ _ _ rfl (by first | omega | exact aluA_lo _ _ _ _) (by first | omega | exact aluA_hi _ _ _ _) (by first | omega | exact aluA_lo _ _ _ _) (by first | omega | exact aluA_hi _ _ _ _)).mono ?_
  rintro e w' ⟨rfl, rfl⟩
  go_wp2_with fail
  refine (alu_yes _ _ _ _ _ rfl (by first | omega | exact aluA_lo _ _ _ _) (by first | omega | exact aluA_hi _ _ _ _) (by first | omega | exact aluA_lo _ _ _ _) (by first | omega | exact aluA_hi _ _ _ _)).mono ?_
  rintro e w' ⟨rfl, rfl⟩
  go_wp2_with fail
  refine (alu_yes _ _ _ _ _ rfl (by first | omega | exact aluA_lo _ _ _ _) (by first | omega | exact aluA_hi _ _ _ _) (by first | omega | exact aluA_lo _ _ _ _) (by first | omega | exact aluA_hi _ _ _ _)).mono ?_
  rintro e w' ⟨rfl, rfl⟩
  rw [r7]
  go_wp2_with fail
  refine (alu_yes _ _ _ _ _ rfl (by first | omega | exact aluA_lo _ _ _ _) (by first | omega | exact aluA_hi _ _ _ _) (by first | omega | exact aluA_lo _ _ _ _) (by first | omega | exact aluA_hi _ _ _ _)).mono ?_
  rintro e w' ⟨rfl, rfl⟩
  go_wp2_with fail
  refine (alu_yes _ _ _ _ _ rfl (by first | omega | exact aluA_lo _ _ _ _) (by first | omega | exact aluA_hi _ _ _ _) (by first | omega | exact aluA_lo _ _ _ _) (by first | omega | exact aluA_hi _ _ _ _)).mono ?_
  rintro e w' ⟨rfl, rfl⟩
  rw [r8_32]
  go_wp2_with fail
  refine (alu_yes _ _ _ _ _ rfl (by first | omega | exact aluA_lo _ _ _ _) (by first | omega | exact aluA_hi _ _ _ _) (by first | omega | exact aluA_lo _ _ _ _) (by first | omega | exact aluA_hi _ _ _ _)).mono ?_
  rintro e w' ⟨rfl, rfl⟩
  go_wp2_with fail
  refine (alu_yes _ _ _ _ _ rfl (by first | omega | exact aluA_lo _ _ _ _) (by first | omega | exact aluA_hi _ _ _ _) (by first | omega | exact aluA_lo _ _ _ _) (by first | omega | exact aluA_hi _ _ _ _)).mono ?_
  rintro e w' ⟨rfl, rfl⟩
  rw [r9_32]
  go_wp2_with fail
  refine (alu_yes _ _ _ _ _ rfl (by first | omega | exact aluA_lo _ _ _ _) (by first | omega | exact aluA_hi _ _ _ _) (by first | omega | exact aluA_lo _ _ _ _) (by first | omega | exact aluA_hi _ _ _ _)).mono ?_
  rintro e w' ⟨rfl, rfl⟩
  go_wp2_with fail
  refine (works_any _).mono ?_
  rintro e w' ⟨rfl, hb⟩
  go_wp2
  go_ret
  exact ⟨rfl, hb⟩
set_option maxHeartbeats 1000000 in
theorem wordRing_64 (a b c : Int) (w : World) (a0 : 0 ≤ a) (a1 : a ≤ 18446744073709551615) (b0 : 0 ≤ b) (b1 : b ≤ 18446744073709551615) (c0 : 0 ≤ c) (c1 : c ≤ 18446744073709551615) :
    Calls Try.prog 6 #[.bool true, .int .u64 a, .int .u64 b, .int .u64 c] w fun e w' => e = .returned (.bool true) ∧ Below w.heap.size w w' := by
  go_enter Try.func6, Try.ntmps6
  go_wp2_with fail
  refine (alu_yes _ _ _ _ _ rfl (by first | omega | exact aluA_lo _ _ _ _) (by first | omega | exact aluA_hi _ _ _ _) (by first | omega | exact aluA_lo _ _ _ _) (by first | omega | exact aluA_hi _ _ _ _)).mono ?_
  rintro e w' ⟨rfl, rfl⟩
  go_wp2_with fail
  refine (alu_yes _ _ _ _ _ rfl (by first | omega | exact aluA_lo _ _ _ _) (by first | omega | exact aluA_hi _ _ _ _) (by first | omega | exact aluA_lo _ _ _ _) (by first | omega | exact aluA_hi _ _ _ _)).mono ?_
  rintro e w' ⟨rfl, rfl⟩
  go_wp2_with fail
  refine (alu_yes _ _ _ _ _ rfl (by first | omega | exact aluA_lo _ _ _ _) (by first | omega | exact aluA_hi _ _ _ _) (by first | omega | exact aluA_lo _ _ _ _) (by first | omega | exact aluA_hi _ _ _ _)).mono ?_
  rintro e w' ⟨rfl, rfl⟩
  rw [r1]
  go_wp2_with fail
  refine (alu_yes _ _ _ _ _ rfl (by first | omega | exact aluA_lo _ _ _ _) (by first | omega | exact aluA_hi _ _ _ _) (by first | omega | exact aluA_lo _ _ _ _) (by first | omega | exact aluA_hi _ _ _ _)).mono ?_
  rintro e w' ⟨rfl, rfl⟩
  go_wp2_with fail
  refine (alu_yes _ _ _ _ _ rfl (by first | omega | exact aluA_lo _ _ _ _) (by first | omega | exact aluA_hi _ _ _ _) (by first | omega | exact aluA_lo _ _ _ _) (by first | omega | exact aluA_hi _ _ _ _)).mono ?_
  rintro e w' ⟨rfl, rfl⟩
  rw [r2]
  go_wp2_with fail
  refine (alu_yes _ _ _ _ _ rfl (by first | omega | exact aluA_lo _ _ _ _) (by first | omega | exact aluA_hi _ _ _ _) (by first | omega | exact aluA_lo _ _ _ _) (by first | omega | exact aluA_hi _ _ _ _)).mono ?_
  rintro e w' ⟨rfl, rfl⟩
  go_wp2_with fail
  refine (alu_yes _ _ _ _ _ rfl (by first | omega | exact aluA_lo _ _ _ _) (by first | omega | exact aluA_hi _ _ _ _) (by first | omega | exact aluA_lo _ _ _ _) (by first | omega | exact aluA_hi _ _ _ _)).mono ?_
  rintro e w' ⟨rfl, rfl⟩
  rw [r3]
  go_wp2_with fail
  refine (alu_yes _ _ _ _ _ rfl (by first | omega | exact aluA_lo _ _ _ _) (by first | omega | exact aluA_hi _ _ _ _) (by first | omega | exact aluA_lo _ _ _ _) (by first | omega | exact aluA_hi _ _ _ _)).mono ?_
  rintro e w' ⟨rfl, rfl⟩
  go_wp2_with fail
  refine (alu_yes _ _ _ _ _ rfl (by first | omega | exact aluA_lo _ _ _ _) (by first | omega | exact aluA_hi _ _ _ _) (by first | omega | exact aluA_lo _ _ _ _) (by first | omega | exact aluA_hi _ _ _ _)).mono ?_
  rintro e w' ⟨rfl, rfl⟩
  go_wp2_with fail
  refine (alu_yes _ _ _ _ _ rfl (by first | omega | exact aluA_lo _ _ _ _) (by first | omega | exact aluA_hi _ _ _ _) (by first | omega | exact aluA_lo _ _ _ _) (by first | omega | exact aluA_hi _ _ _ _)).mono ?_
  rintro e w' ⟨rfl, rfl⟩
  go_wp2_with fail
  refine (alu_yes _ _ _ _ _ rfl (by first | omega | exact aluA_lo _ _ _ _) (by first | omega | exact aluA_hi _ _ _ _) (by first | omega | exact aluA_lo _ _ _ _) (by first | omega | exact aluA_hi _ _ _ _)).mono ?_
  rintro e w' ⟨rfl, rfl⟩
  go_wp2_with fail
  refine (alu_yes _ _ _ _ _ rfl (by first | omega | exact aluA_lo _ _ _ _) (by first | omega | exact aluA_hi _ _ _ _) (by first | omega | exact aluA_lo _ _ _ _) (by first | omega | exact aluA_hi _ _ _ _)).mono ?_
  rintro e w' ⟨rfl, rfl⟩
  go_wp2_with fail
  refine (alu_yes _ _ _ _ _ rfl (by first | omega | exact aluA_lo _ _ _ _) (by first | omega | exact aluA_hi _ _ _ _) (by first | omega | exact aluA_lo _ _ _ _) (by first | omega | exact aluA_hi _ _ _ _)).mono ?_
  rintro e w' ⟨rfl, rfl⟩
  rw [r4]
  go_wp2_with fail
  refine (alu_yes _ _ _ _ _ rfl (by first | omega | exact aluA_lo _ _ _ _) (by first | omega | exact aluA_hi _ _ _ _) (by first | omega | exact aluA_lo _ _ _ _) (by first | omega | exact aluA_hi _ _ _ _)).mono ?_
  rintro e w' ⟨rfl, rfl⟩
  go_wp2_with fail
  refine (alu_yes _ _ _ _ _ rfl (by first | omega | exact aluA_lo _ _ _ _) (by first | omega | exact aluA_hi _ _ _ _) (by first | omega | exact aluA_lo _ _ _ _) (by first | omega | exact aluA_hi _ _ _ _)).mono ?_
  rintro e w' ⟨rfl, rfl⟩
  go_wp2_with fail
  refine (alu_yes _ _ _ _ _ rfl (by first | omega | exact aluA_lo _ _ _ _) (by first | omega | exact aluA_hi _ _ _ _) (by first | omega | exact aluA_lo _ _ _ _) (by first | omega | exact aluA_hi _ _ _ _)).mono ?_
  rintro e w' ⟨rfl, rfl⟩
  rw [r5]
  go_wp2_with fail
  refine (alu_yes _ _ _ _ _ rfl (by first | omega | exact aluA_lo _ _ _ _) (by first | omega | exact aluA_hi _ _ _ _) (by first | omega | exact aluA_lo _ _ _ _) (by first | omega | exact aluA_hi _ _ _ _)).mono ?_
  rintro e w' ⟨rfl, rfl⟩
  go_wp2_with fail
  refine (alu_yes _ _ _ _ _ rfl (by first | omega | exact aluA_lo _ _ _ _) (by first | omega | exact aluA_hi _ _ _ _) (by first | omega | exact aluA_lo _ _ _ _) (by first | omega | exact aluA_hi _ _ _ _)).mono ?_
  rintro e w' ⟨rfl, rfl⟩
  rw [r6]
  go_wp2_with fail
  refine (alu_yes _ _ _ _ _ rfl (by first | omega | exact aluA_lo _ _ _ _) (by first | omega | exact aluA_hi _ _ _ _) (by first | omega | exact aluA_lo _ _ _ _) (by first | omega | exact aluA_hi _ _ _ _)).mono ?_
  rintro e w' ⟨rfl, rfl⟩
  go_wp2_with fail
  refine (alu_yes _ _ _ _ _ rfl (by first | omega | exact aluA_lo _ _ _ _) (by first | omega | exact aluA_hi _ _ _ _) (by first | omega | exact aluA_lo _ _ _ _) (by first | omega | exact aluA_hi _ _ _ _)).mono ?_
  rintro e w' ⟨rfl, rfl⟩
  go_wp2_with fail
  refine (alu_yes _ _ _ _ _ rfl (by first | omega | exact aluA_lo _ _ _ _) (by first | omega | exact aluA_hi _ _ _ _) (by first | omega | exact aluA_lo _ _ _ _) (by first | omega | exact aluA_hi _ _ _ _)).mono ?_
  rintro e w' ⟨rfl, rfl⟩
  go_wp2_with fail
  refine (alu_yes _ _ _ _ _ rfl (by first | omega | exact aluA_lo _ _ _ _) (by first | omega | exact aluA_hi _ _ _ _) (by first | omega | exact aluA_lo _ _ _ _) (by first | omega | exact aluA_hi _ _ _ _)).mono ?_
  rintro e w' ⟨rfl, rfl⟩
  rw [r7]
  go_wp2_with fail
  refine (alu_yes _ _ _ _ _ rfl (by first | omega | exact aluA_lo _ _ _ _) (by first | omega | exact aluA_hi _ _ _ _) (by first | omega | exact aluA_lo _ _ _ _) (by first | omega | exact aluA_hi _ _ _ _)).mono ?_
  rintro e w' ⟨rfl, rfl⟩
  go_wp2_with fail
  refine (alu_yes _ _ _ _ _ rfl (by first | omega | exact aluA_lo _ _ _ _) (by first | omega | exact aluA_hi _ _ _ _) (by first | omega | exact aluA_lo _ _ _ _) (by first | omega | exact aluA_hi _ _ _ _)).mono ?_
  rintro e w' ⟨rfl, rfl⟩
  rw [r8_64]
  go_wp2_with fail
  refine (alu_yes _ _ _ _ _ rfl (by first | omega | exact aluA_lo _ _ _ _) (by first | omega | exact aluA_hi _ _ _ _) (by first | omega | exact aluA_lo _ _ _ _) (by first | omega | exact aluA_hi _ _ _ _)).mono ?_
  rintro e w' ⟨rfl, rfl⟩
  go_wp2_with fail
  refine (alu_yes _ _ _ _ _ rfl (by first | omega | exact aluA_lo _ _ _ _) (by first | omega | exact aluA_hi _ _ _ _) (by first | omega | exact aluA_lo _ _ _ _) (by first | omega | exact aluA_hi _ _ _ _)).mono ?_
  rintro e w' ⟨rfl, rfl⟩
  rw [r9_64]
  go_wp2_with fail
  refine (alu_yes _ _ _ _ _ rfl (by first | omega | exact aluA_lo _ _ _ _) (by first | omega | exact aluA_hi _ _ _ _) (by first | omega | exact aluA_lo _ _ _ _) (by first | omega | exact aluA_hi _ _ _ _)).mono ?_
  rintro e w' ⟨rfl, rfl⟩
  go_wp2_with fail
  refine (works_any _).mono ?_
  rintro e w' ⟨rfl, hb⟩
  go_wp2
  go_ret
  exact ⟨rfl, hb⟩
theorem wordRing (wide : Bool) (a b c : Int) (w : World) (a0 : 0 ≤ a) (a1 : a ≤ 18446744073709551615) (b0 : 0 ≤ b) (b1 : b ≤ 18446744073709551615) (c0 : 0 ≤ c) (c1 : c ≤ 18446744073709551615) :
    Calls Try.prog 6 #[.bool wide, .int .u64 a, .int .u64 b, .int .u64 c] w fun e w' => e = .returned (.bool true) ∧ Below w.heap.size w w' := by
  cases wide
  · exact wordRing_32 a b c w a0 a1 b0 b1 c0 c1
  · exact wordRing_64 a b c w a0 a1 b0 b1 c0 c1
end Go.Proofs.Ytdkaccfombbdkaa.Law
