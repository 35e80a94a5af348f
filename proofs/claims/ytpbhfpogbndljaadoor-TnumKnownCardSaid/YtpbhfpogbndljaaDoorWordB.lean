/-
  Contracts of package word's operate, at both widths.
-/
import Derived.Test.YtpbhfpogbndljaaDoorWordA
namespace Go.Proofs.YtpbhfpogbndljaaDoor.WordA
open Go.RowKit Go.Proofs.YtpbhfpogbndljaaDoor.Num
set_option maxRecDepth 100000 in
set_option maxHeartbeats 1000000 in
theorem oper64 (op a b : Int) (w : World) (a0 : 0 ≤ a) (a1 : a ≤ 18446744073709551615) (b0 : 0 ≤ b) (b1 : b ≤ 18446744073709551615) :
    Calls Tryd.prog 48 #[.int .i64 op, .int .u64 a, .int .u64 b] w fun e w' => e = .returned (.tuple #[.int .u64 (tn (aluV 64 op (b64 a) (b64 b))), .bool (aluIs op)]) ∧ w = w' := by
  by_cases h0 : op = 0
  · subst h0
    go_enter Tryd.func48, Tryd.ntmps48
    go_wp2
    go_ret2
    exact ⟨by rw [add64]; rfl, rfl⟩
  by_cases h1 : op = 16
  · subst h1
    go_enter Tryd.func48, Tryd.ntmps48
    go_wp2
    go_ret2
    exact ⟨by rw [sub64]; rfl, rfl⟩
  by_cases h2 : op = 32
  · subst h2
    go_enter Tryd.func48, Tryd.ntmps48
    go_wp2
    go_ret2
    exact ⟨by rw [mul64]; rfl, rfl⟩
  by_cases h3 : op = 48
  · subst h3
    go_enter Tryd.func48, Tryd.ntmps48
    go_wp2_with (go_at_call 52; refine (quo64 _ _ _ a0 a1 b0 b1).mono ?_; rintro e w' ⟨rfl, rfl⟩)
    go_ret2
    exact ⟨rfl, rfl⟩
  by_cases h4 : op = 64
  · subst h4
    go_enter Tryd.func48, Tryd.ntmps48
    go_wp2
    go_ret2
    exact ⟨by rw [or64]; rfl, rfl⟩
  by_cases h5 : op = 80
  · subst h5
    go_enter Tryd.func48, Tryd.ntmps48
    go_wp2
    go_ret2
    exact ⟨by rw [and64]; rfl, rfl⟩
  by_cases h6 : op = 96
  · subst h6
    have ek : b % 64 = (((b64 b).toNat % 64 : Nat) : Int) := by rw [Int.natCast_emod, toNat64 b b0 b1]; rfl
    have kl : (b64 b).toNat % 64 < 64 := Nat.mod_lt _ (by decide)
    generalize hk : (b64 b).toNat % 64 = k at ek kl
    have hkk := hid hk; clear hk
    go_enter Tryd.func48, Tryd.ntmps48
    go_wp2_with (go_at_call 53; refine (count64 _ _ b0 b1).mono ?_; rintro e w' ⟨rfl, rfl⟩; rw [ek])
    go_ret2
    exact ⟨by rw [shl64, ← hkk.out]; rfl, rfl⟩
  by_cases h7 : op = 112
  · subst h7
    have ek : b % 64 = (((b64 b).toNat % 64 : Nat) : Int) := by rw [Int.natCast_emod, toNat64 b b0 b1]; rfl
    have kl : (b64 b).toNat % 64 < 64 := Nat.mod_lt _ (by decide)
    generalize hk : (b64 b).toNat % 64 = k at ek kl
    have hkk := hid hk; clear hk
    go_enter Tryd.func48, Tryd.ntmps48
    go_wp2_with (go_at_call 53; refine (count64 _ _ b0 b1).mono ?_; rintro e w' ⟨rfl, rfl⟩; rw [ek])
    go_ret2
    exact ⟨by rw [shr64 _ _ a0 a1, ← hkk.out]; rfl, rfl⟩
  by_cases h8 : op = 128
  · subst h8
    go_enter Tryd.func48, Tryd.ntmps48
    go_wp2
    go_ret2
    exact ⟨by rw [neg64]; rfl, rfl⟩
  by_cases h9 : op = 144
  · subst h9
    go_enter Tryd.func48, Tryd.ntmps48
    go_wp2_with (go_at_call 54; refine (rem64 _ _ _ a0 a1 b0 b1).mono ?_; rintro e w' ⟨rfl, rfl⟩)
    go_ret2
    exact ⟨rfl, rfl⟩
  by_cases h10 : op = 160
  · subst h10
    go_enter Tryd.func48, Tryd.ntmps48
    go_wp2
    go_ret2
    exact ⟨by rw [xor64]; rfl, rfl⟩
  by_cases h11 : op = 176
  · subst h11
    go_enter Tryd.func48, Tryd.ntmps48
    go_wp2
    go_ret2
    exact ⟨by rw [show tn (aluV 64 176 (b64 a) (b64 b)) = b from tn_b64 b b0 b1]; rfl, rfl⟩
  by_cases h12 : op = 192
  · subst h12
    have ek : b % 64 = (((b64 b).toNat % 64 : Nat) : Int) := by rw [Int.natCast_emod, toNat64 b b0 b1]; rfl
    have kl : (b64 b).toNat % 64 < 64 := Nat.mod_lt _ (by decide)
    generalize hk : (b64 b).toNat % 64 = k at ek kl
    have hkk := hid hk; clear hk
    go_enter Tryd.func48, Tryd.ntmps48
    go_wp2_with (go_at_call 53; refine (count64 _ _ b0 b1).mono ?_; rintro e w' ⟨rfl, rfl⟩; rw [ek])
    go_ret2
    exact ⟨by rw [toInt64, sar64, back64, ← hkk.out]; rfl, rfl⟩
  have e0 : (op == 0) = false := by simp [h0]
  have e1 : (op == 16) = false := by simp [h1]
  have e2 : (op == 32) = false := by simp [h2]
  have e3 : (op == 48) = false := by simp [h3]
  have e4 : (op == 64) = false := by simp [h4]
  have e5 : (op == 80) = false := by simp [h5]
  have e6 : (op == 96) = false := by simp [h6]
  have e7 : (op == 112) = false := by simp [h7]
  have e8 : (op == 128) = false := by simp [h8]
  have e9 : (op == 144) = false := by simp [h9]
  have e10 : (op == 160) = false := by simp [h10]
  have e11 : (op == 176) = false := by simp [h11]
  have e12 : (op == 192) = false := by simp [h12]
  have hv : aluV 64 op (b64 a) (b64 b) = 0 := by simp only [aluV, if_neg h0, if_neg h1, if_neg h2, if_neg h3, if_neg h4, if_neg h5, if_neg h6, if_neg h7, if_neg h8, if_neg h9, if_neg h10, if_neg h11, if_neg h12]
  have hi : aluIs op = false := by simp only [aluIs, e0, e1, e2, e3, e4, e5, e6, e7, e8, e9, e10, e11, e12]; rfl
  rw [hv, hi]
  clear hv hi h0 h1 h2 h3 h4 h5 h6 h7 h8 h9 h10 h11 h12
  go_enter Tryd.func48, Tryd.ntmps48
  go_wp2
  go_ret2
  exact ⟨rfl, rfl⟩
set_option maxRecDepth 100000 in
set_option maxHeartbeats 1000000 in
theorem oper32 (op a b : Int) (w : World) (a0 : 0 ≤ a) (a1 : a ≤ 4294967295) (b0 : 0 ≤ b) (b1 : b ≤ 4294967295) :
    Calls Tryd.prog 49 #[.int .i64 op, .int .u32 a, .int .u32 b] w fun e w' => e = .returned (.tuple #[.int .u32 (tn (aluV 32 op (b32 a) (b32 b))), .bool (aluIs op)]) ∧ w = w' := by
  by_cases h0 : op = 0
  · subst h0
    go_enter Tryd.func49, Tryd.ntmps49
    go_wp2
    go_ret2
    exact ⟨by rw [add32]; rfl, rfl⟩
  by_cases h1 : op = 16
  · subst h1
    go_enter Tryd.func49, Tryd.ntmps49
    go_wp2
    go_ret2
    exact ⟨by rw [sub32]; rfl, rfl⟩
  by_cases h2 : op = 32
  · subst h2
    go_enter Tryd.func49, Tryd.ntmps49
    go_wp2
    go_ret2
    exact ⟨by rw [mul32]; rfl, rfl⟩
  by_cases h3 : op = 48
  · subst h3
    go_enter Tryd.func49, Tryd.ntmps49
    go_wp2_with (go_at_call 55; refine (quo32 _ _ _ a0 a1 b0 b1).mono ?_; rintro e w' ⟨rfl, rfl⟩)
    go_ret2
    exact ⟨rfl, rfl⟩
  by_cases h4 : op = 64
  · subst h4
    go_enter Tryd.func49, Tryd.ntmps49
    go_wp2
    go_ret2
    exact ⟨by rw [or32]; rfl, rfl⟩
  by_cases h5 : op = 80
  · subst h5
    go_enter Tryd.func49, Tryd.ntmps49
    go_wp2
    go_ret2
    exact ⟨by rw [and32]; rfl, rfl⟩
  by_cases h6 : op = 96
  · subst h6
    have ek : b % 32 = (((b32 b).toNat % 32 : Nat) : Int) := by rw [Int.natCast_emod, toNat32 b b0 b1]; rfl
    have kl : (b32 b).toNat % 32 < 32 := Nat.mod_lt _ (by decide)
    generalize hk : (b32 b).toNat % 32 = k at ek kl
    have hkk := hid hk; clear hk
    go_enter Tryd.func49, Tryd.ntmps49
    go_wp2_with (go_at_call 56; refine (count32 _ _ b0 b1).mono ?_; rintro e w' ⟨rfl, rfl⟩; rw [ek])
    go_ret2
    exact ⟨by rw [shl32, ← hkk.out]; rfl, rfl⟩
  by_cases h7 : op = 112
  · subst h7
    have ek : b % 32 = (((b32 b).toNat % 32 : Nat) : Int) := by rw [Int.natCast_emod, toNat32 b b0 b1]; rfl
    have kl : (b32 b).toNat % 32 < 32 := Nat.mod_lt _ (by decide)
    generalize hk : (b32 b).toNat % 32 = k at ek kl
    have hkk := hid hk; clear hk
    go_enter Tryd.func49, Tryd.ntmps49
    go_wp2_with (go_at_call 56; refine (count32 _ _ b0 b1).mono ?_; rintro e w' ⟨rfl, rfl⟩; rw [ek])
    go_ret2
    exact ⟨by rw [shr32 _ _ a0 a1, ← hkk.out]; rfl, rfl⟩
  by_cases h8 : op = 128
  · subst h8
    go_enter Tryd.func49, Tryd.ntmps49
    go_wp2
    go_ret2
    exact ⟨by rw [neg32]; rfl, rfl⟩
  by_cases h9 : op = 144
  · subst h9
    go_enter Tryd.func49, Tryd.ntmps49
    go_wp2_with (go_at_call 57; refine (rem32 _ _ _ a0 a1 b0 b1).mono ?_; rintro e w' ⟨rfl, rfl⟩)
    go_ret2
    exact ⟨rfl, rfl⟩
  by_cases h10 : op = 160
  · subst h10
    go_enter Tryd.func49, Tryd.ntmps49
    go_wp2
    go_ret2
    exact ⟨by rw [xor32]; rfl, rfl⟩
  by_cases h11 : op = 176
  · subst h11
    go_enter Tryd.func49, Tryd.ntmps49
    go_wp2
    go_ret2
    exact ⟨by rw [show tn (aluV 32 176 (b32 a) (b32 b)) = b from tn_b32 b b0 b1]; rfl, rfl⟩
  by_cases h12 : op = 192
  · subst h12
    have ek : b % 32 = (((b32 b).toNat % 32 : Nat) : Int) := by rw [Int.natCast_emod, toNat32 b b0 b1]; rfl
    have kl : (b32 b).toNat % 32 < 32 := Nat.mod_lt _ (by decide)
    generalize hk : (b32 b).toNat % 32 = k at ek kl
    have hkk := hid hk; clear hk
    go_enter Tryd.func49, Tryd.ntmps49
    go_wp2_with (go_at_call 56; refine (count32 _ _ b0 b1).mono ?_; rintro e w' ⟨rfl, rfl⟩; rw [ek])
    go_ret2
    exact ⟨by rw [toInt32, sar32, back32, ← hkk.out]; rfl, rfl⟩
  have e0 : (op == 0) = false := by simp [h0]
  have e1 : (op == 16) = false := by simp [h1]
  have e2 : (op == 32) = false := by simp [h2]
  have e3 : (op == 48) = false := by simp [h3]
  have e4 : (op == 64) = false := by simp [h4]
  have e5 : (op == 80) = false := by simp [h5]
  have e6 : (op == 96) = false := by simp [h6]
  have e7 : (op == 112) = false := by simp [h7]
  have e8 : (op == 128) = false := by simp [h8]
  have e9 : (op == 144) = false := by simp [h9]
  have e10 : (op == 160) = false := by simp [h10]
  have e11 : (op == 176) = false := by simp [h11]
  have e12 : (op == 192) = false := by simp [h12]
  have hv : aluV 32 op (b32 a) (b32 b) = 0 := by simp only [aluV, if_neg h0, if_neg h1, if_neg h2, if_neg h3, if_neg h4, if_neg h5, if_neg h6, if_neg h7, if_neg h8, if_neg h9, if_neg h10, if_neg h11, if_neg h12]
  have hi : aluIs op = false := by simp only [aluIs, e0, e1, e2, e3, e4, e5, e6, e7, e8, e9, e10, e11, e12]; rfl
  rw [hv, hi]
  clear hv hi h0 h1 h2 h3 h4 h5 h6 h7 h8 h9 h10 h11 h12
  go_enter Tryd.func49, Tryd.ntmps49
  go_wp2
  go_ret2
  exact ⟨rfl, rfl⟩
end Go.Proofs.YtpbhfpogbndljaaDoor.WordA
