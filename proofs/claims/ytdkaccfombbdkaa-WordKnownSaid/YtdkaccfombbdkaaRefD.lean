/-
  Contracts of the document's answers for comparisons: signed, Jump.
-/
import Derived.Test.YtdkaccfombbdkaaRefC
import Derived.Test.YtdkaccfombbdkaaWordC
namespace Go.Proofs.Ytdkaccfombbdkaa.RefA
open Go.RowKit Go.Proofs.Ytdkaccfombbdkaa.Num
theorem signed64 (a : Int) (w : World) :
    Calls Try.prog 35 #[.int .u64 a, .int .i64 64] w fun e w' => e = .returned (.int .i64 (b64 a).toInt) ∧ w = w' := by
  rw [← toInt64]
  go_enter Try.func35, Try.ntmps35
  go_wp2
  go_ret
  exact ⟨rfl, rfl⟩
theorem toInt_bit (a : Int) (a0 : 0 ≤ a) (a1 : a ≤ 4294967295) : (b32 a).toInt = if a.toNat.testBit 31 then a - 4294967296 else a := by
  have e := toNat32 a a0 a1
  have e' : (b32 a).toNat = a.toNat := by omega
  rw [BitVec.toInt_eq_msb_cond, BitVec.msb_eq_getLsbD_last, ← BitVec.testBit_toNat, e']
  show (if a.toNat.testBit 31 = true then _ else _) = _
  split <;> simp <;> omega
theorem signed32 (a : Int) (w : World) (a0 : 0 ≤ a) (a1 : a ≤ 4294967295) :
    Calls Try.prog 35 #[.int .u64 a, .int .i64 32] w fun e w' => e = .returned (.int .i64 (b32 a).toInt) ∧ w = w' := by
  rw [toInt_bit a a0 a1]
  have hb := bit_any a 31 w a0 (by decide) (by decide)
  rw [show (31 : Int).toNat = 31 from rfl] at hb
  have Hb := hid hb; clear hb
  cases ht : a.toNat.testBit 31
  all_goals
    go_enter Try.func35, Try.ntmps35
    go_wp2_with (go_at_call 37; refine Hb.out.mono ?_; rintro e w' ⟨rfl, rfl⟩)
    go_ret
    exact ⟨rfl, rfl⟩
theorem jmpA_w (op a b : Int) : jmpV 64 op (b64 a) (b64 b) = jmpA op true a b := by simp only [jmpA, if_true]
theorem jset64N (a b : Int) (a0 : 0 ≤ a) (a1 : a ≤ 18446744073709551615) (b0 : 0 ≤ b) (b1 : b ≤ 18446744073709551615) : decide (0 < a.toNat &&& b.toNat) = jmpV 64 64 (b64 a) (b64 b) := by
  have ha := and64N a b a0 a1 b0 b1
  show _ = decide (b64 a &&& b64 b ≠ 0)
  have e : (tn (b64 a &&& b64 b) = 0 ↔ b64 a &&& b64 b = 0) := ⟨fun h => tn_inj (h.trans rfl), fun h => by rw [h]; rfl⟩
  have l := tn_lo (b64 a &&& b64 b)
  rw [Bool.eq_iff_iff]; simp only [decide_eq_true_eq, ne_eq, ← e]; omega
theorem jset32N (a b : Int) : decide (0 < (a % 4294967296).toNat &&& (b % 4294967296).toNat) = jmpV 32 64 (b32 a) (b32 b) := by
  have ha := and32N a b
  show _ = decide (b32 a &&& b32 b ≠ 0)
  have e : (tn (b32 a &&& b32 b) = 0 ↔ b32 a &&& b32 b = 0) := ⟨fun h => tn_inj (h.trans rfl), fun h => by rw [h]; rfl⟩
  have l := tn_lo (b32 a &&& b32 b)
  rw [Bool.eq_iff_iff]; simp only [decide_eq_true_eq, ne_eq, ← e]; omega

theorem jump_32_16 (a b : Int) (w : World) (a0 : 0 ≤ a) (a1 : a ≤ 18446744073709551615) (b0 : 0 ≤ b) (b1 : b ≤ 18446744073709551615) :
    Calls Try.prog 14 #[.int .i64 16, .bool false, .int .u64 a, .int .u64 b] w fun e w' => e = .returned (.tuple #[.bool (jmpA 16 false a b), .bool (jmpIs 16)]) ∧ w = w' := by
  have _ := a1; have _ := b1
  go_enter Try.func14, Try.ntmps14
  go_wp2_with fail
  refine (cut32 _ _ (by omega)).mono ?_; rintro e w' ⟨rfl, rfl⟩
  go_wp2_with fail
  refine (cut32 _ _ (by omega)).mono ?_; rintro e w' ⟨rfl, rfl⟩
  go_wp2_with fail
  refine (signed32 _ _ (by omega) (by omega)).mono ?_; rintro e w' ⟨rfl, rfl⟩
  go_wp2_with fail
  refine (signed32 _ _ (by omega) (by omega)).mono ?_; rintro e w' ⟨rfl, rfl⟩
  go_wp2
  go_ret2
  exact ⟨by rw [WordA.jeql32 (a % 4294967296) (b % 4294967296) (by omega) (by omega) (by omega) (by omega), b32_mod, b32_mod]; rfl, rfl⟩
theorem jump_32_32 (a b : Int) (w : World) (a0 : 0 ≤ a) (a1 : a ≤ 18446744073709551615) (b0 : 0 ≤ b) (b1 : b ≤ 18446744073709551615) :
    Calls Try.prog 14 #[.int .i64 32, .bool false, .int .u64 a, .int .u64 b] w fun e w' => e = .returned (.tuple #[.bool (jmpA 32 false a b), .bool (jmpIs 32)]) ∧ w = w' := by
  have _ := a1; have _ := b1
  go_enter Try.func14, Try.ntmps14
  go_wp2_with fail
  refine (cut32 _ _ (by omega)).mono ?_; rintro e w' ⟨rfl, rfl⟩
  go_wp2_with fail
  refine (cut32 _ _ (by omega)).mono ?_; rintro e w' ⟨rfl, rfl⟩
  go_wp2_with fail
  refine (signed32 _ _ (by omega) (by omega)).mono ?_; rintro e w' ⟨rfl, rfl⟩
  go_wp2_with fail
  refine (signed32 _ _ (by omega) (by omega)).mono ?_; rintro e w' ⟨rfl, rfl⟩
  go_wp2
  go_ret2
  exact ⟨by rw [WordA.jgtr32 (a % 4294967296) (b % 4294967296) (by omega) (by omega) (by omega) (by omega), b32_mod, b32_mod]; rfl, rfl⟩
theorem jump_32_48 (a b : Int) (w : World) (a0 : 0 ≤ a) (a1 : a ≤ 18446744073709551615) (b0 : 0 ≤ b) (b1 : b ≤ 18446744073709551615) :
    Calls Try.prog 14 #[.int .i64 48, .bool false, .int .u64 a, .int .u64 b] w fun e w' => e = .returned (.tuple #[.bool (jmpA 48 false a b), .bool (jmpIs 48)]) ∧ w = w' := by
  have _ := a1; have _ := b1
  go_enter Try.func14, Try.ntmps14
  go_wp2_with fail
  refine (cut32 _ _ (by omega)).mono ?_; rintro e w' ⟨rfl, rfl⟩
  go_wp2_with fail
  refine (cut32 _ _ (by omega)).mono ?_; rintro e w' ⟨rfl, rfl⟩
  go_wp2_with fail
  refine (signed32 _ _ (by omega) (by omega)).mono ?_; rintro e w' ⟨rfl, rfl⟩
  go_wp2_with fail
  refine (signed32 _ _ (by omega) (by omega)).mono ?_; rintro e w' ⟨rfl, rfl⟩
  go_wp2
  go_ret2
  exact ⟨by rw [WordA.jgeq32 (a % 4294967296) (b % 4294967296) (by omega) (by omega) (by omega) (by omega), b32_mod, b32_mod]; rfl, rfl⟩
theorem jump_32_64 (a b : Int) (w : World) (a0 : 0 ≤ a) (a1 : a ≤ 18446744073709551615) (b0 : 0 ≤ b) (b1 : b ≤ 18446744073709551615) :
    Calls Try.prog 14 #[.int .i64 64, .bool false, .int .u64 a, .int .u64 b] w fun e w' => e = .returned (.tuple #[.bool (jmpA 64 false a b), .bool (jmpIs 64)]) ∧ w = w' := by
  have _ := a1; have _ := b1
  go_enter Try.func14, Try.ntmps14
  go_wp2_with fail
  refine (cut32 _ _ (by omega)).mono ?_; rintro e w' ⟨rfl, rfl⟩
  go_wp2_with fail
  refine (cut32 _ _ (by omega)).mono ?_; rintro e w' ⟨rfl, rfl⟩
  go_wp2_with fail
  refine (signed32 _ _ (by omega) (by omega)).mono ?_; rintro e w' ⟨rfl, rfl⟩
  go_wp2_with fail
  refine (signed32 _ _ (by omega) (by omega)).mono ?_; rintro e w' ⟨rfl, rfl⟩
  go_wp2_with fail
  refine (bitw_and _ _ _ (by omega) (by omega) (by omega) (by omega)).mono ?_; rintro e w' ⟨rfl, rfl⟩
  go_wp2
  go_ret2
  exact ⟨by rw [jset32N]; rfl, rfl⟩
theorem jump_32_80 (a b : Int) (w : World) (a0 : 0 ≤ a) (a1 : a ≤ 18446744073709551615) (b0 : 0 ≤ b) (b1 : b ≤ 18446744073709551615) :
    Calls Try.prog 14 #[.int .i64 80, .bool false, .int .u64 a, .int .u64 b] w fun e w' => e = .returned (.tuple #[.bool (jmpA 80 false a b), .bool (jmpIs 80)]) ∧ w = w' := by
  have _ := a1; have _ := b1
  go_enter Try.func14, Try.ntmps14
  go_wp2_with fail
  refine (cut32 _ _ (by omega)).mono ?_; rintro e w' ⟨rfl, rfl⟩
  go_wp2_with fail
  refine (cut32 _ _ (by omega)).mono ?_; rintro e w' ⟨rfl, rfl⟩
  go_wp2_with fail
  refine (signed32 _ _ (by omega) (by omega)).mono ?_; rintro e w' ⟨rfl, rfl⟩
  go_wp2_with fail
  refine (signed32 _ _ (by omega) (by omega)).mono ?_; rintro e w' ⟨rfl, rfl⟩
  go_wp2
  go_ret2
  exact ⟨by rw [WordA.jneq32 (a % 4294967296) (b % 4294967296) (by omega) (by omega) (by omega) (by omega), b32_mod, b32_mod]; rfl, rfl⟩
theorem jump_32_96 (a b : Int) (w : World) (a0 : 0 ≤ a) (a1 : a ≤ 18446744073709551615) (b0 : 0 ≤ b) (b1 : b ≤ 18446744073709551615) :
    Calls Try.prog 14 #[.int .i64 96, .bool false, .int .u64 a, .int .u64 b] w fun e w' => e = .returned (.tuple #[.bool (jmpA 96 false a b), .bool (jmpIs 96)]) ∧ w = w' := by
  have _ := a1; have _ := b1
  go_enter Try.func14, Try.ntmps14
  go_wp2_with fail
  refine (cut32 _ _ (by omega)).mono ?_; rintro e w' ⟨rfl, rfl⟩
  go_wp2_with fail
  refine (cut32 _ _ (by omega)).mono ?_; rintro e w' ⟨rfl, rfl⟩
  go_wp2_with fail
  refine (signed32 _ _ (by omega) (by omega)).mono ?_; rintro e w' ⟨rfl, rfl⟩
  go_wp2_with fail
  refine (signed32 _ _ (by omega) (by omega)).mono ?_; rintro e w' ⟨rfl, rfl⟩
  go_wp2
  go_ret2
  exact ⟨by rw [b32_mod, b32_mod]; rfl, rfl⟩
theorem jump_32_112 (a b : Int) (w : World) (a0 : 0 ≤ a) (a1 : a ≤ 18446744073709551615) (b0 : 0 ≤ b) (b1 : b ≤ 18446744073709551615) :
    Calls Try.prog 14 #[.int .i64 112, .bool false, .int .u64 a, .int .u64 b] w fun e w' => e = .returned (.tuple #[.bool (jmpA 112 false a b), .bool (jmpIs 112)]) ∧ w = w' := by
  have _ := a1; have _ := b1
  go_enter Try.func14, Try.ntmps14
  go_wp2_with fail
  refine (cut32 _ _ (by omega)).mono ?_; rintro e w' ⟨rfl, rfl⟩
  go_wp2_with fail
  refine (cut32 _ _ (by omega)).mono ?_; rintro e w' ⟨rfl, rfl⟩
  go_wp2_with fail
  refine (signed32 _ _ (by omega) (by omega)).mono ?_; rintro e w' ⟨rfl, rfl⟩
  go_wp2_with fail
  refine (signed32 _ _ (by omega) (by omega)).mono ?_; rintro e w' ⟨rfl, rfl⟩
  go_wp2
  go_ret2
  exact ⟨by rw [b32_mod, b32_mod]; rfl, rfl⟩
theorem jump_32_160 (a b : Int) (w : World) (a0 : 0 ≤ a) (a1 : a ≤ 18446744073709551615) (b0 : 0 ≤ b) (b1 : b ≤ 18446744073709551615) :
    Calls Try.prog 14 #[.int .i64 160, .bool false, .int .u64 a, .int .u64 b] w fun e w' => e = .returned (.tuple #[.bool (jmpA 160 false a b), .bool (jmpIs 160)]) ∧ w = w' := by
  have _ := a1; have _ := b1
  go_enter Try.func14, Try.ntmps14
  go_wp2_with fail
  refine (cut32 _ _ (by omega)).mono ?_; rintro e w' ⟨rfl, rfl⟩
  go_wp2_with fail
  refine (cut32 _ _ (by omega)).mono ?_; rintro e w' ⟨rfl, rfl⟩
  go_wp2_with fail
  refine (signed32 _ _ (by omega) (by omega)).mono ?_; rintro e w' ⟨rfl, rfl⟩
  go_wp2_with fail
  refine (signed32 _ _ (by omega) (by omega)).mono ?_; rintro e w' ⟨rfl, rfl⟩
  go_wp2
  go_ret2
  exact ⟨by rw [WordA.jlss32 (a % 4294967296) (b % 4294967296) (by omega) (by omega) (by omega) (by omega), b32_mod, b32_mod]; rfl, rfl⟩
theorem jump_32_176 (a b : Int) (w : World) (a0 : 0 ≤ a) (a1 : a ≤ 18446744073709551615) (b0 : 0 ≤ b) (b1 : b ≤ 18446744073709551615) :
    Calls Try.prog 14 #[.int .i64 176, .bool false, .int .u64 a, .int .u64 b] w fun e w' => e = .returned (.tuple #[.bool (jmpA 176 false a b), .bool (jmpIs 176)]) ∧ w = w' := by
  have _ := a1; have _ := b1
  go_enter Try.func14, Try.ntmps14
  go_wp2_with fail
  refine (cut32 _ _ (by omega)).mono ?_; rintro e w' ⟨rfl, rfl⟩
  go_wp2_with fail
  refine (cut32 _ _ (by omega)).mono ?_; rintro e w' ⟨rfl, rfl⟩
  go_wp2_with fail
  refine (signed32 _ _ (by omega) (by omega)).mono ?_; rintro e w' ⟨rfl, rfl⟩
  go_wp2_with fail
  refine (signed32 _ _ (by omega) (by omega)).mono ?_; rintro e w' ⟨rfl, rfl⟩
  go_wp2
  go_ret2
  exact ⟨by rw [WordA.jleq32 (a % 4294967296) (b % 4294967296) (by omega) (by omega) (by omega) (by omega), b32_mod, b32_mod]; rfl, rfl⟩
theorem jump_32_192 (a b : Int) (w : World) (a0 : 0 ≤ a) (a1 : a ≤ 18446744073709551615) (b0 : 0 ≤ b) (b1 : b ≤ 18446744073709551615) :
    Calls Try.prog 14 #[.int .i64 192, .bool false, .int .u64 a, .int .u64 b] w fun e w' => e = .returned (.tuple #[.bool (jmpA 192 false a b), .bool (jmpIs 192)]) ∧ w = w' := by
  have _ := a1; have _ := b1
  go_enter Try.func14, Try.ntmps14
  go_wp2_with fail
  refine (cut32 _ _ (by omega)).mono ?_; rintro e w' ⟨rfl, rfl⟩
  go_wp2_with fail
  refine (cut32 _ _ (by omega)).mono ?_; rintro e w' ⟨rfl, rfl⟩
  go_wp2_with fail
  refine (signed32 _ _ (by omega) (by omega)).mono ?_; rintro e w' ⟨rfl, rfl⟩
  go_wp2_with fail
  refine (signed32 _ _ (by omega) (by omega)).mono ?_; rintro e w' ⟨rfl, rfl⟩
  go_wp2
  go_ret2
  exact ⟨by rw [b32_mod, b32_mod]; rfl, rfl⟩
theorem jump_32_208 (a b : Int) (w : World) (a0 : 0 ≤ a) (a1 : a ≤ 18446744073709551615) (b0 : 0 ≤ b) (b1 : b ≤ 18446744073709551615) :
    Calls Try.prog 14 #[.int .i64 208, .bool false, .int .u64 a, .int .u64 b] w fun e w' => e = .returned (.tuple #[.bool (jmpA 208 false a b), .bool (jmpIs 208)]) ∧ w = w' := by
  have _ := a1; have _ := b1
  go_enter Try.func14, Try.ntmps14
  go_wp2_with fail
  refine (cut32 _ _ (by omega)).mono ?_; rintro e w' ⟨rfl, rfl⟩
  go_wp2_with fail
  refine (cut32 _ _ (by omega)).mono ?_; rintro e w' ⟨rfl, rfl⟩
  go_wp2_with fail
  refine (signed32 _ _ (by omega) (by omega)).mono ?_; rintro e w' ⟨rfl, rfl⟩
  go_wp2_with fail
  refine (signed32 _ _ (by omega) (by omega)).mono ?_; rintro e w' ⟨rfl, rfl⟩
  go_wp2
  go_ret2
  exact ⟨by rw [b32_mod, b32_mod]; rfl, rfl⟩
theorem jump_32 (op : Int) (a b : Int) (w : World) (a0 : 0 ≤ a) (a1 : a ≤ 18446744073709551615) (b0 : 0 ≤ b) (b1 : b ≤ 18446744073709551615) :
    Calls Try.prog 14 #[.int .i64 op, .bool false, .int .u64 a, .int .u64 b] w fun e w' => e = .returned (.tuple #[.bool (jmpA op false a b), .bool (jmpIs op)]) ∧ w = w' := by
  by_cases h0 : op = 16
  · subst h0; exact jump_32_16 a b w a0 a1 b0 b1
  by_cases h1 : op = 32
  · subst h1; exact jump_32_32 a b w a0 a1 b0 b1
  by_cases h2 : op = 48
  · subst h2; exact jump_32_48 a b w a0 a1 b0 b1
  by_cases h3 : op = 64
  · subst h3; exact jump_32_64 a b w a0 a1 b0 b1
  by_cases h4 : op = 80
  · subst h4; exact jump_32_80 a b w a0 a1 b0 b1
  by_cases h5 : op = 96
  · subst h5; exact jump_32_96 a b w a0 a1 b0 b1
  by_cases h6 : op = 112
  · subst h6; exact jump_32_112 a b w a0 a1 b0 b1
  by_cases h7 : op = 160
  · subst h7; exact jump_32_160 a b w a0 a1 b0 b1
  by_cases h8 : op = 176
  · subst h8; exact jump_32_176 a b w a0 a1 b0 b1
  by_cases h9 : op = 192
  · subst h9; exact jump_32_192 a b w a0 a1 b0 b1
  by_cases h10 : op = 208
  · subst h10; exact jump_32_208 a b w a0 a1 b0 b1
  have e0 : (op == 16) = false := by simp [h0]
  have e1 : (op == 32) = false := by simp [h1]
  have e2 : (op == 48) = false := by simp [h2]
  have e3 : (op == 64) = false := by simp [h3]
  have e4 : (op == 80) = false := by simp [h4]
  have e5 : (op == 96) = false := by simp [h5]
  have e6 : (op == 112) = false := by simp [h6]
  have e7 : (op == 160) = false := by simp [h7]
  have e8 : (op == 176) = false := by simp [h8]
  have e9 : (op == 192) = false := by simp [h9]
  have e10 : (op == 208) = false := by simp [h10]
  have hv : jmpA op false a b = false := by simp only [jmpA, jmpV, if_neg h0, if_neg h1, if_neg h2, if_neg h3, if_neg h4, if_neg h5, if_neg h6, if_neg h7, if_neg h8, if_neg h9, if_neg h10]; rfl
  have hi : jmpIs op = false := by simp only [jmpIs, e0, e1, e2, e3, e4, e5, e6, e7, e8, e9, e10]; rfl
  rw [hv, hi]
  clear hv hi h0 h1 h2 h3 h4 h5 h6 h7 h8 h9 h10
  go_enter Try.func14, Try.ntmps14
  go_wp2_with fail
  refine (cut32 _ _ (by omega)).mono ?_; rintro e w' ⟨rfl, rfl⟩
  go_wp2_with fail
  refine (cut32 _ _ (by omega)).mono ?_; rintro e w' ⟨rfl, rfl⟩
  go_wp2_with fail
  refine (signed32 _ _ (by omega) (by omega)).mono ?_; rintro e w' ⟨rfl, rfl⟩
  go_wp2_with fail
  refine (signed32 _ _ (by omega) (by omega)).mono ?_; rintro e w' ⟨rfl, rfl⟩
  go_wp2
  go_ret2
  exact ⟨rfl, rfl⟩
theorem jump_64_16 (a b : Int) (w : World) (a0 : 0 ≤ a) (a1 : a ≤ 18446744073709551615) (b0 : 0 ≤ b) (b1 : b ≤ 18446744073709551615) :
    Calls Try.prog 14 #[.int .i64 16, .bool true, .int .u64 a, .int .u64 b] w fun e w' => e = .returned (.tuple #[.bool (jmpA 16 true a b), .bool (jmpIs 16)]) ∧ w = w' := by
  have _ := a1; have _ := b1
  go_enter Try.func14, Try.ntmps14
  go_wp2_with fail
  refine (cut64 _ _ (by omega) (by omega)).mono ?_; rintro e w' ⟨rfl, rfl⟩
  go_wp2_with fail
  refine (cut64 _ _ (by omega) (by omega)).mono ?_; rintro e w' ⟨rfl, rfl⟩
  go_wp2_with fail
  refine (signed64 _ _).mono ?_; rintro e w' ⟨rfl, rfl⟩
  go_wp2_with fail
  refine (signed64 _ _).mono ?_; rintro e w' ⟨rfl, rfl⟩
  go_wp2
  go_ret2
  exact ⟨by rw [WordA.jeql64 a b a0 a1 b0 b1, jmpA_w]; rfl, rfl⟩
theorem jump_64_32 (a b : Int) (w : World) (a0 : 0 ≤ a) (a1 : a ≤ 18446744073709551615) (b0 : 0 ≤ b) (b1 : b ≤ 18446744073709551615) :
    Calls Try.prog 14 #[.int .i64 32, .bool true, .int .u64 a, .int .u64 b] w fun e w' => e = .returned (.tuple #[.bool (jmpA 32 true a b), .bool (jmpIs 32)]) ∧ w = w' := by
  have _ := a1; have _ := b1
  go_enter Try.func14, Try.ntmps14
  go_wp2_with fail
  refine (cut64 _ _ (by omega) (by omega)).mono ?_; rintro e w' ⟨rfl, rfl⟩
  go_wp2_with fail
  refine (cut64 _ _ (by omega) (by omega)).mono ?_; rintro e w' ⟨rfl, rfl⟩
  go_wp2_with fail
  refine (signed64 _ _).mono ?_; rintro e w' ⟨rfl, rfl⟩
  go_wp2_with fail
  refine (signed64 _ _).mono ?_; rintro e w' ⟨rfl, rfl⟩
  go_wp2
  go_ret2
  exact ⟨by rw [WordA.jgtr64 a b a0 a1 b0 b1, jmpA_w]; rfl, rfl⟩
theorem jump_64_48 (a b : Int) (w : World) (a0 : 0 ≤ a) (a1 : a ≤ 18446744073709551615) (b0 : 0 ≤ b) (b1 : b ≤ 18446744073709551615) :
    Calls Try.prog 14 #[.int .i64 48, .bool true, .int .u64 a, .int .u64 b] w fun e w' => e = .returned (.tuple #[.bool (jmpA 48 true a b), .bool (jmpIs 48)]) ∧ w = w' := by
  have _ := a1; have _ := b1
  go_enter Try.func14, Try.ntmps14
  go_wp2_with fail
  refine (cut64 _ _ (by omega) (by omega)).mono ?_; rintro e w' ⟨rfl, rfl⟩
  go_wp2_with fail
  refine (cut64 _ _ (by omega) (by omega)).mono ?_; rintro e w' ⟨rfl, rfl⟩
  go_wp2_with fail
  refine (signed64 _ _).mono ?_; rintro e w' ⟨rfl, rfl⟩
  go_wp2_with fail
  refine (signed64 _ _).mono ?_; rintro e w' ⟨rfl, rfl⟩
  go_wp2
  go_ret2
  exact ⟨by rw [WordA.jgeq64 a b a0 a1 b0 b1, jmpA_w]; rfl, rfl⟩
theorem jump_64_64 (a b : Int) (w : World) (a0 : 0 ≤ a) (a1 : a ≤ 18446744073709551615) (b0 : 0 ≤ b) (b1 : b ≤ 18446744073709551615) :
    Calls Try.prog 14 #[.int .i64 64, .bool true, .int .u64 a, .int .u64 b] w fun e w' => e = .returned (.tuple #[.bool (jmpA 64 true a b), .bool (jmpIs 64)]) ∧ w = w' := by
  have _ := a1; have _ := b1
  go_enter Try.func14, Try.ntmps14
  go_wp2_with fail
  refine (cut64 _ _ (by omega) (by omega)).mono ?_; rintro e w' ⟨rfl, rfl⟩
  go_wp2_with fail
  refine (cut64 _ _ (by omega) (by omega)).mono ?_; rintro e w' ⟨rfl, rfl⟩
  go_wp2_with fail
  refine (signed64 _ _).mono ?_; rintro e w' ⟨rfl, rfl⟩
  go_wp2_with fail
  refine (signed64 _ _).mono ?_; rintro e w' ⟨rfl, rfl⟩
  go_wp2_with fail
  refine (bitw_and _ _ _ (by omega) (by omega) (by omega) (by omega)).mono ?_; rintro e w' ⟨rfl, rfl⟩
  go_wp2
  go_ret2
  exact ⟨by rw [jset64N a b a0 a1 b0 b1, jmpA_w]; rfl, rfl⟩
theorem jump_64_80 (a b : Int) (w : World) (a0 : 0 ≤ a) (a1 : a ≤ 18446744073709551615) (b0 : 0 ≤ b) (b1 : b ≤ 18446744073709551615) :
    Calls Try.prog 14 #[.int .i64 80, .bool true, .int .u64 a, .int .u64 b] w fun e w' => e = .returned (.tuple #[.bool (jmpA 80 true a b), .bool (jmpIs 80)]) ∧ w = w' := by
  have _ := a1; have _ := b1
  go_enter Try.func14, Try.ntmps14
  go_wp2_with fail
  refine (cut64 _ _ (by omega) (by omega)).mono ?_; rintro e w' ⟨rfl, rfl⟩
  go_wp2_with fail
  refine (cut64 _ _ (by omega) (by omega)).mono ?_; rintro e w' ⟨rfl, rfl⟩
  go_wp2_with fail
  refine (signed64 _ _).mono ?_; rintro e w' ⟨rfl, rfl⟩
  go_wp2_with fail
  refine (signed64 _ _).mono ?_; rintro e w' ⟨rfl, rfl⟩
  go_wp2
  go_ret2
  exact ⟨by rw [WordA.jneq64 a b a0 a1 b0 b1, jmpA_w]; rfl, rfl⟩
theorem jump_64_96 (a b : Int) (w : World) (a0 : 0 ≤ a) (a1 : a ≤ 18446744073709551615) (b0 : 0 ≤ b) (b1 : b ≤ 18446744073709551615) :
    Calls Try.prog 14 #[.int .i64 96, .bool true, .int .u64 a, .int .u64 b] w fun e w' => e = .returned (.tuple #[.bool (jmpA 96 true a b), .bool (jmpIs 96)]) ∧ w = w' := by
  have _ := a1; have _ := b1
  go_enter Try.func14, Try.ntmps14
  go_wp2_with fail
  refine (cut64 _ _ (by omega) (by omega)).mono ?_; rintro e w' ⟨rfl, rfl⟩
  go_wp2_with fail
  refine (cut64 _ _ (by omega) (by omega)).mono ?_; rintro e w' ⟨rfl, rfl⟩
  go_wp2_with fail
  refine (signed64 _ _).mono ?_; rintro e w' ⟨rfl, rfl⟩
  go_wp2_with fail
  refine (signed64 _ _).mono ?_; rintro e w' ⟨rfl, rfl⟩
  go_wp2
  go_ret2
  exact ⟨rfl, rfl⟩
theorem jump_64_112 (a b : Int) (w : World) (a0 : 0 ≤ a) (a1 : a ≤ 18446744073709551615) (b0 : 0 ≤ b) (b1 : b ≤ 18446744073709551615) :
    Calls Try.prog 14 #[.int .i64 112, .bool true, .int .u64 a, .int .u64 b] w fun e w' => e = .returned (.tuple #[.bool (jmpA 112 true a b), .bool (jmpIs 112)]) ∧ w = w' := by
  have _ := a1; have _ := b1
  go_enter Try.func14, Try.ntmps14
  go_wp2_with fail
  refine (cut64 _ _ (by omega) (by omega)).mono ?_; rintro e w' ⟨rfl, rfl⟩
  go_wp2_with fail
  refine (cut64 _ _ (by omega) (by omega)).mono ?_; rintro e w' ⟨rfl, rfl⟩
  go_wp2_with fail
  refine (signed64 _ _).mono ?_; rintro e w' ⟨rfl, rfl⟩
  go_wp2_with fail
  refine (signed64 _ _).mono ?_; rintro e w' ⟨rfl, rfl⟩
  go_wp2
  go_ret2
  exact ⟨rfl, rfl⟩
theorem jump_64_160 (a b : Int) (w : World) (a0 : 0 ≤ a) (a1 : a ≤ 18446744073709551615) (b0 : 0 ≤ b) (b1 : b ≤ 18446744073709551615) :
    Calls Try.prog 14 #[.int .i64 160, .bool true, .int .u64 a, .int .u64 b] w fun e w' => e = .returned (.tuple #[.bool (jmpA 160 true a b), .bool (jmpIs 160)]) ∧ w = w' := by
  have _ := a1; have _ := b1
  go_enter Try.func14, Try.ntmps14
  go_wp2_with fail
  refine (cut64 _ _ (by omega) (by omega)).mono ?_; rintro e w' ⟨rfl, rfl⟩
  go_wp2_with fail
  refine (cut64 _ _ (by omega) (by omega)).mono ?_; rintro e w' ⟨rfl, rfl⟩
  go_wp2_with fail
  refine (signed64 _ _).mono ?_; rintro e w' ⟨rfl, rfl⟩
  go_wp2_with fail
  refine (signed64 _ _).mono ?_; rintro e w' ⟨rfl, rfl⟩
  go_wp2
  go_ret2
  exact ⟨by rw [WordA.jlss64 a b a0 a1 b0 b1, jmpA_w]; rfl, rfl⟩
theorem jump_64_176 (a b : Int) (w : World) (a0 : 0 ≤ a) (a1 : a ≤ 18446744073709551615) (b0 : 0 ≤ b) (b1 : b ≤ 18446744073709551615) :
    Calls Try.prog 14 #[.int .i64 176, .bool true, .int .u64 a, .int .u64 b] w fun e w' => e = .returned (.tuple #[.bool (jmpA 176 true a b), .bool (jmpIs 176)]) ∧ w = w' := by
  have _ := a1; have _ := b1
  go_enter Try.func14, Try.ntmps14
  go_wp2_with fail
  refine (cut64 _ _ (by omega) (by omega)).mono ?_; rintro e w' ⟨rfl, rfl⟩
  go_wp2_with fail
  refine (cut64 _ _ (by omega) (by omega)).mono ?_; rintro e w' ⟨rfl, rfl⟩
  go_wp2_with fail
  refine (signed64 _ _).mono ?_; rintro e w' ⟨rfl, rfl⟩
  go_wp2_with fail
  refine (signed64 _ _).mono ?_; rintro e w' ⟨rfl, rfl⟩
  go_wp2
  go_ret2
  exact ⟨by rw [WordA.jleq64 a b a0 a1 b0 b1, jmpA_w]; rfl, rfl⟩
theorem jump_64_192 (a b : Int) (w : World) (a0 : 0 ≤ a) (a1 : a ≤ 18446744073709551615) (b0 : 0 ≤ b) (b1 : b ≤ 18446744073709551615) :
    Calls Try.prog 14 #[.int .i64 192, .bool true, .int .u64 a, .int .u64 b] w fun e w' => e = .returned (.tuple #[.bool (jmpA 192 true a b), .bool (jmpIs 192)]) ∧ w = w' := by
  have _ := a1; have _ := b1
  go_enter Try.func14, Try.ntmps14
  go_wp2_with fail
  refine (cut64 _ _ (by omega) (by omega)).mono ?_; rintro e w' ⟨rfl, rfl⟩
  go_wp2_with fail
  refine (cut64 _ _ (by omega) (by omega)).mono ?_; rintro e w' ⟨rfl, rfl⟩
  go_wp2_with fail
  refine (signed64 _ _).mono ?_; rintro e w' ⟨rfl, rfl⟩
  go_wp2_with fail
  refine (signed64 _ _).mono ?_; rintro e w' ⟨rfl, rfl⟩
  go_wp2
  go_ret2
  exact ⟨rfl, rfl⟩
theorem jump_64_208 (a b : Int) (w : World) (a0 : 0 ≤ a) (a1 : a ≤ 18446744073709551615) (b0 : 0 ≤ b) (b1 : b ≤ 18446744073709551615) :
    Calls Try.prog 14 #[.int .i64 208, .bool true, .int .u64 a, .int .u64 b] w fun e w' => e = .returned (.tuple #[.bool (jmpA 208 true a b), .bool (jmpIs 208)]) ∧ w = w' := by
  have _ := a1; have _ := b1
  go_enter Try.func14, Try.ntmps14
  go_wp2_with fail
  refine (cut64 _ _ (by omega) (by omega)).mono ?_; rintro e w' ⟨rfl, rfl⟩
  go_wp2_with fail
  refine (cut64 _ _ (by omega) (by omega)).mono ?_; rintro e w' ⟨rfl, rfl⟩
  go_wp2_with fail
  refine (signed64 _ _).mono ?_; rintro e w' ⟨rfl, rfl⟩
  go_wp2_with fail
  refine (signed64 _ _).mono ?_; rintro e w' ⟨rfl, rfl⟩
  go_wp2
  go_ret2
  exact ⟨rfl, rfl⟩
theorem jump_64 (op : Int) (a b : Int) (w : World) (a0 : 0 ≤ a) (a1 : a ≤ 18446744073709551615) (b0 : 0 ≤ b) (b1 : b ≤ 18446744073709551615) :
    Calls Try.prog 14 #[.int .i64 op, .bool true, .int .u64 a, .int .u64 b] w fun e w' => e = .returned (.tuple #[.bool (jmpA op true a b), .bool (jmpIs op)]) ∧ w = w' := by
  by_cases h0 : op = 16
  · subst h0; exact jump_64_16 a b w a0 a1 b0 b1
  by_cases h1 : op = 32
  · subst h1; exact jump_64_32 a b w a0 a1 b0 b1
  by_cases h2 : op = 48
  · subst h2; exact jump_64_48 a b w a0 a1 b0 b1
  by_cases h3 : op = 64
  · subst h3; exact jump_64_64 a b w a0 a1 b0 b1
  by_cases h4 : op = 80
  · subst h4; exact jump_64_80 a b w a0 a1 b0 b1
  by_cases h5 : op = 96
  · subst h5; exact jump_64_96 a b w a0 a1 b0 b1
  by_cases h6 : op = 112
  · subst h6; exact jump_64_112 a b w a0 a1 b0 b1
  by_cases h7 : op = 160
  · subst h7; exact jump_64_160 a b w a0 a1 b0 b1
  by_cases h8 : op = 176
  · subst h8; exact jump_64_176 a b w a0 a1 b0 b1
  by_cases h9 : op = 192
  · subst h9; exact jump_64_192 a b w a0 a1 b0 b1
  by_cases h10 : op = 208
  · subst h10; exact jump_64_208 a b w a0 a1 b0 b1
  have e0 : (op == 16) = false := by simp [h0]
  have e1 : (op == 32) = false := by simp [h1]
  have e2 : (op == 48) = false := by simp [h2]
  have e3 : (op == 64) = false := by simp [h3]
  have e4 : (op == 80) = false := by simp [h4]
  have e5 : (op == 96) = false := by simp [h5]
  have e6 : (op == 112) = false := by simp [h6]
  have e7 : (op == 160) = false := by simp [h7]
  have e8 : (op == 176) = false := by simp [h8]
  have e9 : (op == 192) = false := by simp [h9]
  have e10 : (op == 208) = false := by simp [h10]
  have hv : jmpA op true a b = false := by simp only [jmpA, jmpV, if_neg h0, if_neg h1, if_neg h2, if_neg h3, if_neg h4, if_neg h5, if_neg h6, if_neg h7, if_neg h8, if_neg h9, if_neg h10]; rfl
  have hi : jmpIs op = false := by simp only [jmpIs, e0, e1, e2, e3, e4, e5, e6, e7, e8, e9, e10]; rfl
  rw [hv, hi]
  clear hv hi h0 h1 h2 h3 h4 h5 h6 h7 h8 h9 h10
  go_enter Try.func14, Try.ntmps14
  go_wp2_with fail
  refine (cut64 _ _ (by omega) (by omega)).mono ?_; rintro e w' ⟨rfl, rfl⟩
  go_wp2_with fail
  refine (cut64 _ _ (by omega) (by omega)).mono ?_; rintro e w' ⟨rfl, rfl⟩
  go_wp2_with fail
  refine (signed64 _ _).mono ?_; rintro e w' ⟨rfl, rfl⟩
  go_wp2_with fail
  refine (signed64 _ _).mono ?_; rintro e w' ⟨rfl, rfl⟩
  go_wp2
  go_ret2
  exact ⟨rfl, rfl⟩
theorem jump_any (op : Int) (wide : Bool) (a b : Int) (w : World) (a0 : 0 ≤ a) (a1 : a ≤ 18446744073709551615) (b0 : 0 ≤ b) (b1 : b ≤ 18446744073709551615) :
    Calls Try.prog 14 #[.int .i64 op, .bool wide, .int .u64 a, .int .u64 b] w fun e w' => e = .returned (.tuple #[.bool (jmpA op wide a b), .bool (jmpIs op)]) ∧ w = w' := by
  cases wide
  · exact jump_32 op a b w a0 a1 b0 b1
  · exact jump_64 op a b w a0 a1 b0 b1
end Go.Proofs.Ytdkaccfombbdkaa.RefA
