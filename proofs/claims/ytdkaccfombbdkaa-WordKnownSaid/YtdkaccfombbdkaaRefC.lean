/-
  Contracts of the document's answers for numbers: whole, Alu.
-/
import Derived.Test.YtdkaccfombbdkaaRefB
namespace Go.Proofs.Ytdkaccfombbdkaa.RefA
open Go.RowKit Go.Proofs.Ytdkaccfombbdkaa.Num
theorem cut64 (a : Int) (w : World) (a0 : 0 ≤ a) (a1 : a ≤ 18446744073709551615) :
    Calls Try.prog 29 #[.int .u64 a, .int .i64 64] w fun e w' => e = .returned (.int .u64 a) ∧ w = w' := by
  have h := cut_any a 64 w a0 (by omega) (by omega)
  rw [show ((a.toNat % 2 ^ (64 : Int).toNat : Nat) : Int) = a by rw [show 2 ^ (64 : Int).toNat = 18446744073709551616 from rfl]; omega] at h
  exact h
theorem cut32 (a : Int) (w : World) (a0 : 0 ≤ a) :
    Calls Try.prog 29 #[.int .u64 a, .int .i64 32] w fun e w' => e = .returned (.int .u64 (a % 4294967296)) ∧ w = w' := by
  have h := cut_any a 32 w a0 (by omega) (by omega)
  rw [show ((a.toNat % 2 ^ (32 : Int).toNat : Nat) : Int) = a % 4294967296 by rw [show 2 ^ (32 : Int).toNat = 4294967296 from rfl]; omega] at h
  exact h
theorem whole_any (op a b : Int) (w : World) (a0 : 0 ≤ a) (a1 : a ≤ 18446744073709551615) (b0 : 0 ≤ b) (b1 : b ≤ 18446744073709551615) :
    Calls Try.prog 32 #[.int .i64 op, .int .u64 a, .int .u64 b] w fun e w' => e = .returned (.tuple #[.int .u64 (wholeV op a b), .bool (wholeIs op)]) ∧ w = w' := by
  by_cases h0 : op = 0
  · subst h0
    go_enter Try.func32, Try.ntmps32
    go_wp2
    go_ret2
    exact ⟨by rw [IntKind.wrap_u64]; rfl, rfl⟩
  by_cases h1 : op = 16
  · subst h1
    go_enter Try.func32, Try.ntmps32
    go_wp2
    go_ret2
    exact ⟨by rw [IntKind.wrap_u64]; rfl, rfl⟩
  by_cases h2 : op = 32
  · subst h2
    go_enter Try.func32, Try.ntmps32
    go_wp2
    go_ret2
    exact ⟨by rw [IntKind.wrap_u64]; rfl, rfl⟩
  by_cases h3 : op = 48
  · subst h3
    by_cases hb : b = 0
    · subst hb
      go_enter Try.func32, Try.ntmps32
      go_wp2
      go_ret2
      exact ⟨by rw [show wholeV 48 a 0 = 0 by simp [wholeV]]; rfl, rfl⟩
    · have hz : (b == 0) = false := by simp [hb]
      have hb1 : 1 ≤ b := by omega
      go_enter Try.func32, Try.ntmps32
      go_wp2
      go_ret2
      exact ⟨rfl, rfl⟩
  by_cases h4 : op = 144
  · subst h4
    by_cases hb : b = 0
    · subst hb
      go_enter Try.func32, Try.ntmps32
      go_wp2
      go_ret2
      exact ⟨by rw [show wholeV 144 a 0 = a by simp [wholeV]]; rfl, rfl⟩
    · have hz : (b == 0) = false := by simp [hb]
      have hb1 : 1 ≤ b := by omega
      go_enter Try.func32, Try.ntmps32
      go_wp2
      go_ret2
      exact ⟨rfl, rfl⟩
  by_cases h5 : op = 128
  · subst h5
    go_enter Try.func32, Try.ntmps32
    go_wp2
    go_ret2
    exact ⟨by rw [IntKind.wrap_u64]; rfl, rfl⟩
  by_cases h6 : op = 176
  · subst h6
    go_enter Try.func32, Try.ntmps32
    go_wp2
    go_ret2
    exact ⟨rfl, rfl⟩
  have e0 : (op == 0) = false := by simp [h0]
  have e1 : (op == 16) = false := by simp [h1]
  have e2 : (op == 32) = false := by simp [h2]
  have e3 : (op == 48) = false := by simp [h3]
  have e4 : (op == 144) = false := by simp [h4]
  have e5 : (op == 128) = false := by simp [h5]
  have e6 : (op == 176) = false := by simp [h6]
  have hv : wholeV op a b = 0 := by simp only [wholeV, if_neg h0, if_neg h1, if_neg h2, if_neg h3, if_neg h4, if_neg h5, if_neg h6]
  have hi : wholeIs op = false := by simp only [wholeIs, e0, e1, e2, e3, e4, e5, e6]; rfl
  rw [hv, hi]
  clear hv hi h0 h1 h2 h3 h4 h5 h6
  go_enter Try.func32, Try.ntmps32
  go_wp2
  go_ret2
  exact ⟨rfl, rfl⟩
set_option maxHeartbeats 1000000 in
theorem alu_any (op : Int) (wide : Bool) (a b : Int) (w : World) (a0 : 0 ≤ a) (a1 : a ≤ 18446744073709551615) (b0 : 0 ≤ b) (b1 : b ≤ 18446744073709551615) :
    Calls Try.prog 11 #[.int .i64 op, .bool wide, .int .u64 a, .int .u64 b] w fun e w' => e = .returned (.tuple #[.int .u64 (aluA op wide a b), .bool (aluIs op)]) ∧ w = w' := by
  cases wide
  · by_cases h0 : op = 64
    · subst h0
      go_enter Try.func11, Try.ntmps11
      go_wp2_with fail
      refine (cut32 _ _ (by omega)).mono ?_; rintro e w' ⟨rfl, rfl⟩
      go_wp2_with fail
      refine (cut32 _ _ (by omega)).mono ?_; rintro e w' ⟨rfl, rfl⟩
      go_wp2_with fail
      refine (bitw_or _ _ _ (by omega) (by omega) (by omega) (by omega)).mono ?_; rintro e w' ⟨rfl, rfl⟩
      go_wp2
      go_ret2
      exact ⟨by rw [or32N]; rfl, rfl⟩
    by_cases h1 : op = 80
    · subst h1
      go_enter Try.func11, Try.ntmps11
      go_wp2_with fail
      refine (cut32 _ _ (by omega)).mono ?_; rintro e w' ⟨rfl, rfl⟩
      go_wp2_with fail
      refine (cut32 _ _ (by omega)).mono ?_; rintro e w' ⟨rfl, rfl⟩
      go_wp2_with fail
      refine (bitw_and _ _ _ (by omega) (by omega) (by omega) (by omega)).mono ?_; rintro e w' ⟨rfl, rfl⟩
      go_wp2
      go_ret2
      exact ⟨by rw [and32N]; rfl, rfl⟩
    by_cases h2 : op = 160
    · subst h2
      go_enter Try.func11, Try.ntmps11
      go_wp2_with fail
      refine (cut32 _ _ (by omega)).mono ?_; rintro e w' ⟨rfl, rfl⟩
      go_wp2_with fail
      refine (cut32 _ _ (by omega)).mono ?_; rintro e w' ⟨rfl, rfl⟩
      go_wp2_with fail
      refine (bitw_xor _ _ _ (by omega) (by omega) (by omega) (by omega)).mono ?_; rintro e w' ⟨rfl, rfl⟩
      go_wp2
      go_ret2
      exact ⟨by rw [xor32N]; rfl, rfl⟩
    by_cases h3 : op = 96
    · subst h3
      go_enter Try.func11, Try.ntmps11
      go_wp2_with fail
      refine (cut32 _ _ (by omega)).mono ?_; rintro e w' ⟨rfl, rfl⟩
      go_wp2_with fail
      refine (cut32 _ _ (by omega)).mono ?_; rintro e w' ⟨rfl, rfl⟩
      go_wp2_with fail
      refine (shift_shl32 _ _ _ (by omega) (by omega) (by omega) (by omega)).mono ?_; rintro e w' ⟨rfl, rfl⟩
      go_wp2
      go_ret2
      exact ⟨by rw [cnt32, b32_mod]; rfl, rfl⟩
    by_cases h4 : op = 112
    · subst h4
      go_enter Try.func11, Try.ntmps11
      go_wp2_with fail
      refine (cut32 _ _ (by omega)).mono ?_; rintro e w' ⟨rfl, rfl⟩
      go_wp2_with fail
      refine (cut32 _ _ (by omega)).mono ?_; rintro e w' ⟨rfl, rfl⟩
      go_wp2_with fail
      refine (shift_shr32 _ _ _ (by omega) (by omega) (by omega) (by omega)).mono ?_; rintro e w' ⟨rfl, rfl⟩
      go_wp2
      go_ret2
      exact ⟨by rw [cnt32, b32_mod]; rfl, rfl⟩
    by_cases h5 : op = 192
    · subst h5
      go_enter Try.func11, Try.ntmps11
      go_wp2_with fail
      refine (cut32 _ _ (by omega)).mono ?_; rintro e w' ⟨rfl, rfl⟩
      go_wp2_with fail
      refine (cut32 _ _ (by omega)).mono ?_; rintro e w' ⟨rfl, rfl⟩
      go_wp2_with fail
      refine (shift_sar32 _ _ _ (by omega) (by omega) (by omega) (by omega)).mono ?_; rintro e w' ⟨rfl, rfl⟩
      go_wp2
      go_ret2
      exact ⟨by rw [cnt32, b32_mod]; rfl, rfl⟩
    have e0 : (op == 64) = false := by simp [h0]
    have e1 : (op == 80) = false := by simp [h1]
    have e2 : (op == 160) = false := by simp [h2]
    have e3 : (op == 96) = false := by simp [h3]
    have e4 : (op == 112) = false := by simp [h4]
    have e5 : (op == 192) = false := by simp [h5]
    have fin := hid (whole_32 op a b h0 h1 h3 h4 h2 h5)
    have fis := hid (whole_is op h0 h1 h3 h4 h2 h5)
    have bd := wholeV_bd op (a % 4294967296) (b % 4294967296) (by omega) (by omega) (by omega) (by omega)
    clear h0 h1 h2 h3 h4 h5
    go_enter Try.func11, Try.ntmps11
    go_wp2_with fail
    refine (cut32 _ _ (by omega)).mono ?_; rintro e w' ⟨rfl, rfl⟩
    go_wp2_with fail
    refine (cut32 _ _ (by omega)).mono ?_; rintro e w' ⟨rfl, rfl⟩
    go_wp2_with fail
    refine (whole_any _ _ _ _ (by omega) (by omega) (by omega) (by omega)).mono ?_; rintro e w' ⟨rfl, rfl⟩
    go_wp2_with fail
    refine (cut32 _ _ (by omega)).mono ?_; rintro e w' ⟨rfl, rfl⟩
    go_wp2
    go_ret2
    exact ⟨by rw [fin.out, fis.out]; rfl, rfl⟩
  · by_cases h0 : op = 64
    · subst h0
      go_enter Try.func11, Try.ntmps11
      go_wp2_with fail
      refine (cut64 _ _ (by omega) (by omega)).mono ?_; rintro e w' ⟨rfl, rfl⟩
      go_wp2_with fail
      refine (cut64 _ _ (by omega) (by omega)).mono ?_; rintro e w' ⟨rfl, rfl⟩
      go_wp2_with fail
      refine (bitw_or _ _ _ (by omega) (by omega) (by omega) (by omega)).mono ?_; rintro e w' ⟨rfl, rfl⟩
      go_wp2
      go_ret2
      exact ⟨by rw [or64N _ _ a0 a1 b0 b1]; rfl, rfl⟩
    by_cases h1 : op = 80
    · subst h1
      go_enter Try.func11, Try.ntmps11
      go_wp2_with fail
      refine (cut64 _ _ (by omega) (by omega)).mono ?_; rintro e w' ⟨rfl, rfl⟩
      go_wp2_with fail
      refine (cut64 _ _ (by omega) (by omega)).mono ?_; rintro e w' ⟨rfl, rfl⟩
      go_wp2_with fail
      refine (bitw_and _ _ _ (by omega) (by omega) (by omega) (by omega)).mono ?_; rintro e w' ⟨rfl, rfl⟩
      go_wp2
      go_ret2
      exact ⟨by rw [and64N _ _ a0 a1 b0 b1]; rfl, rfl⟩
    by_cases h2 : op = 160
    · subst h2
      go_enter Try.func11, Try.ntmps11
      go_wp2_with fail
      refine (cut64 _ _ (by omega) (by omega)).mono ?_; rintro e w' ⟨rfl, rfl⟩
      go_wp2_with fail
      refine (cut64 _ _ (by omega) (by omega)).mono ?_; rintro e w' ⟨rfl, rfl⟩
      go_wp2_with fail
      refine (bitw_xor _ _ _ (by omega) (by omega) (by omega) (by omega)).mono ?_; rintro e w' ⟨rfl, rfl⟩
      go_wp2
      go_ret2
      exact ⟨by rw [xor64N _ _ a0 a1 b0 b1]; rfl, rfl⟩
    by_cases h3 : op = 96
    · subst h3
      go_enter Try.func11, Try.ntmps11
      go_wp2_with fail
      refine (cut64 _ _ (by omega) (by omega)).mono ?_; rintro e w' ⟨rfl, rfl⟩
      go_wp2_with fail
      refine (cut64 _ _ (by omega) (by omega)).mono ?_; rintro e w' ⟨rfl, rfl⟩
      go_wp2_with fail
      refine (shift_shl64 _ _ _ (by omega) (by omega) (by omega) (by omega)).mono ?_; rintro e w' ⟨rfl, rfl⟩
      go_wp2
      go_ret2
      exact ⟨by rw [cnt64 b b0 b1]; rfl, rfl⟩
    by_cases h4 : op = 112
    · subst h4
      go_enter Try.func11, Try.ntmps11
      go_wp2_with fail
      refine (cut64 _ _ (by omega) (by omega)).mono ?_; rintro e w' ⟨rfl, rfl⟩
      go_wp2_with fail
      refine (cut64 _ _ (by omega) (by omega)).mono ?_; rintro e w' ⟨rfl, rfl⟩
      go_wp2_with fail
      refine (shift_shr64 _ _ _ (by omega) (by omega) (by omega) (by omega)).mono ?_; rintro e w' ⟨rfl, rfl⟩
      go_wp2
      go_ret2
      exact ⟨by rw [cnt64 b b0 b1]; rfl, rfl⟩
    by_cases h5 : op = 192
    · subst h5
      go_enter Try.func11, Try.ntmps11
      go_wp2_with fail
      refine (cut64 _ _ (by omega) (by omega)).mono ?_; rintro e w' ⟨rfl, rfl⟩
      go_wp2_with fail
      refine (cut64 _ _ (by omega) (by omega)).mono ?_; rintro e w' ⟨rfl, rfl⟩
      go_wp2_with fail
      refine (shift_sar64 _ _ _ (by omega) (by omega) (by omega) (by omega)).mono ?_; rintro e w' ⟨rfl, rfl⟩
      go_wp2
      go_ret2
      exact ⟨by rw [cnt64 b b0 b1]; rfl, rfl⟩
    have e0 : (op == 64) = false := by simp [h0]
    have e1 : (op == 80) = false := by simp [h1]
    have e2 : (op == 160) = false := by simp [h2]
    have e3 : (op == 96) = false := by simp [h3]
    have e4 : (op == 112) = false := by simp [h4]
    have e5 : (op == 192) = false := by simp [h5]
    have fin := hid (whole_64 op a b a0 a1 b0 b1 h0 h1 h3 h4 h2 h5)
    have fis := hid (whole_is op h0 h1 h3 h4 h2 h5)
    have bd := wholeV_bd op a b (by omega) (by omega) (by omega) (by omega)
    clear h0 h1 h2 h3 h4 h5
    go_enter Try.func11, Try.ntmps11
    go_wp2_with fail
    refine (cut64 _ _ (by omega) (by omega)).mono ?_; rintro e w' ⟨rfl, rfl⟩
    go_wp2_with fail
    refine (cut64 _ _ (by omega) (by omega)).mono ?_; rintro e w' ⟨rfl, rfl⟩
    go_wp2_with fail
    refine (whole_any _ _ _ _ (by omega) (by omega) (by omega) (by omega)).mono ?_; rintro e w' ⟨rfl, rfl⟩
    go_wp2_with fail
    refine (cut64 _ _ (by omega) (by omega)).mono ?_; rintro e w' ⟨rfl, rfl⟩
    go_wp2
    go_ret2
    exact ⟨by rw [fin.out, fis.out]; rfl, rfl⟩
end Go.Proofs.Ytdkaccfombbdkaa.RefA
