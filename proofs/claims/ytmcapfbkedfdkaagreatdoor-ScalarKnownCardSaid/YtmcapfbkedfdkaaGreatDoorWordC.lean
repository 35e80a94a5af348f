/-
  Contracts of package word's compare, at both widths.
-/
import Derived.Test.YtmcapfbkedfdkaaGreatDoorWordA
namespace Go.Proofs.YtmcapfbkedfdkaaGreatDoor.WordA
open Go.RowKit Go.Proofs.YtmcapfbkedfdkaaGreatDoor.Num
theorem jeql64 (a b : Int) (a0 : 0 ≤ a) (a1 : a ≤ 18446744073709551615) (b0 : 0 ≤ b) (b1 : b ≤ 18446744073709551615) : (a == b) = jmpV 64 16 (b64 a) (b64 b) := by
 have ha := toNat64 a a0 a1; have hb := toNat64 b b0 b1
 have e : (b64 a = b64 b ↔ a = b) := ⟨fun h => by rw [← ha, ← hb, h], fun h => by rw [h]⟩
 show _ = decide (b64 a = b64 b)
 rw [Bool.eq_iff_iff]; simp [e]
theorem jneq64 (a b : Int) (a0 : 0 ≤ a) (a1 : a ≤ 18446744073709551615) (b0 : 0 ≤ b) (b1 : b ≤ 18446744073709551615) : (a != b) = jmpV 64 80 (b64 a) (b64 b) := by
 have ha := toNat64 a a0 a1; have hb := toNat64 b b0 b1
 have e : (b64 a = b64 b ↔ a = b) := ⟨fun h => by rw [← ha, ← hb, h], fun h => by rw [h]⟩
 show _ = decide (b64 a ≠ b64 b)
 rw [Bool.eq_iff_iff]; simp [e]
theorem jgtr64 (a b : Int) (a0 : 0 ≤ a) (a1 : a ≤ 18446744073709551615) (b0 : 0 ≤ b) (b1 : b ≤ 18446744073709551615) : decide (b < a) = jmpV 64 32 (b64 a) (b64 b) := by
 have ha := toNat64 a a0 a1; have hb := toNat64 b b0 b1
 show _ = decide ((b64 b).toNat < (b64 a).toNat)
 rw [Bool.eq_iff_iff]; simp; omega
theorem jgeq64 (a b : Int) (a0 : 0 ≤ a) (a1 : a ≤ 18446744073709551615) (b0 : 0 ≤ b) (b1 : b ≤ 18446744073709551615) : decide (b ≤ a) = jmpV 64 48 (b64 a) (b64 b) := by
 have ha := toNat64 a a0 a1; have hb := toNat64 b b0 b1
 show _ = decide ((b64 b).toNat ≤ (b64 a).toNat)
 rw [Bool.eq_iff_iff]; simp; omega
theorem jlss64 (a b : Int) (a0 : 0 ≤ a) (a1 : a ≤ 18446744073709551615) (b0 : 0 ≤ b) (b1 : b ≤ 18446744073709551615) : decide (a < b) = jmpV 64 160 (b64 a) (b64 b) := by
 have ha := toNat64 a a0 a1; have hb := toNat64 b b0 b1
 show _ = decide ((b64 a).toNat < (b64 b).toNat)
 rw [Bool.eq_iff_iff]; simp; omega
theorem jleq64 (a b : Int) (a0 : 0 ≤ a) (a1 : a ≤ 18446744073709551615) (b0 : 0 ≤ b) (b1 : b ≤ 18446744073709551615) : decide (a ≤ b) = jmpV 64 176 (b64 a) (b64 b) := by
 have ha := toNat64 a a0 a1; have hb := toNat64 b b0 b1
 show _ = decide ((b64 a).toNat ≤ (b64 b).toNat)
 rw [Bool.eq_iff_iff]; simp; omega
theorem jset64 (a b : Int) (a0 : 0 ≤ a) (a1 : a ≤ 18446744073709551615) (b0 : 0 ≤ b) (b1 : b ≤ 18446744073709551615) : (bits .and .u64 a b != 0) = jmpV 64 64 (b64 a) (b64 b) := by
 have _ := a0; have _ := a1; have _ := b0; have _ := b1
 rw [and64]
 show _ = decide (b64 a &&& b64 b ≠ 0)
 have e : (tn (b64 a &&& b64 b) = 0 ↔ b64 a &&& b64 b = 0) := ⟨fun h => tn_inj (h.trans rfl), fun h => by rw [h]; rfl⟩
 rw [Bool.eq_iff_iff]; simp [e]
theorem jeql32 (a b : Int) (a0 : 0 ≤ a) (a1 : a ≤ 4294967295) (b0 : 0 ≤ b) (b1 : b ≤ 4294967295) : (a == b) = jmpV 32 16 (b32 a) (b32 b) := by
 have ha := toNat32 a a0 a1; have hb := toNat32 b b0 b1
 have e : (b32 a = b32 b ↔ a = b) := ⟨fun h => by rw [← ha, ← hb, h], fun h => by rw [h]⟩
 show _ = decide (b32 a = b32 b)
 rw [Bool.eq_iff_iff]; simp [e]
theorem jneq32 (a b : Int) (a0 : 0 ≤ a) (a1 : a ≤ 4294967295) (b0 : 0 ≤ b) (b1 : b ≤ 4294967295) : (a != b) = jmpV 32 80 (b32 a) (b32 b) := by
 have ha := toNat32 a a0 a1; have hb := toNat32 b b0 b1
 have e : (b32 a = b32 b ↔ a = b) := ⟨fun h => by rw [← ha, ← hb, h], fun h => by rw [h]⟩
 show _ = decide (b32 a ≠ b32 b)
 rw [Bool.eq_iff_iff]; simp [e]
theorem jgtr32 (a b : Int) (a0 : 0 ≤ a) (a1 : a ≤ 4294967295) (b0 : 0 ≤ b) (b1 : b ≤ 4294967295) : decide (b < a) = jmpV 32 32 (b32 a) (b32 b) := by
 have ha := toNat32 a a0 a1; have hb := toNat32 b b0 b1
 show _ = decide ((b32 b).toNat < (b32 a).toNat)
 rw [Bool.eq_iff_iff]; simp; omega
theorem jgeq32 (a b : Int) (a0 : 0 ≤ a) (a1 : a ≤ 4294967295) (b0 : 0 ≤ b) (b1 : b ≤ 4294967295) : decide (b ≤ a) = jmpV 32 48 (b32 a) (b32 b) := by
 have ha := toNat32 a a0 a1; have hb := toNat32 b b0 b1
 show _ = decide ((b32 b).toNat ≤ (b32 a).toNat)
 rw [Bool.eq_iff_iff]; simp; omega
theorem jlss32 (a b : Int) (a0 : 0 ≤ a) (a1 : a ≤ 4294967295) (b0 : 0 ≤ b) (b1 : b ≤ 4294967295) : decide (a < b) = jmpV 32 160 (b32 a) (b32 b) := by
 have ha := toNat32 a a0 a1; have hb := toNat32 b b0 b1
 show _ = decide ((b32 a).toNat < (b32 b).toNat)
 rw [Bool.eq_iff_iff]; simp; omega
theorem jleq32 (a b : Int) (a0 : 0 ≤ a) (a1 : a ≤ 4294967295) (b0 : 0 ≤ b) (b1 : b ≤ 4294967295) : decide (a ≤ b) = jmpV 32 176 (b32 a) (b32 b) := by
 have ha := toNat32 a a0 a1; have hb := toNat32 b b0 b1
 show _ = decide ((b32 a).toNat ≤ (b32 b).toNat)
 rw [Bool.eq_iff_iff]; simp; omega
theorem jset32 (a b : Int) (a0 : 0 ≤ a) (a1 : a ≤ 4294967295) (b0 : 0 ≤ b) (b1 : b ≤ 4294967295) : (bits .and .u32 a b != 0) = jmpV 32 64 (b32 a) (b32 b) := by
 have _ := a0; have _ := a1; have _ := b0; have _ := b1
 rw [and32]
 show _ = decide (b32 a &&& b32 b ≠ 0)
 have e : (tn (b32 a &&& b32 b) = 0 ↔ b32 a &&& b32 b = 0) := ⟨fun h => tn_inj (h.trans rfl), fun h => by rw [h]; rfl⟩
 rw [Bool.eq_iff_iff]; simp [e]
set_option maxRecDepth 100000 in
set_option maxHeartbeats 1000000 in
theorem comp64 (op a b : Int) (w : World) (a0 : 0 ≤ a) (a1 : a ≤ 18446744073709551615) (b0 : 0 ≤ b) (b1 : b ≤ 18446744073709551615) :
  Calls Tryz.prog 35 #[.int .i64 op, .int .u64 a, .int .u64 b] w fun e w' => e = .returned (.tuple #[.bool (jmpV 64 op (b64 a) (b64 b)), .bool (jmpIs op)]) ∧ w = w' := by
 by_cases h0 : op = 16
 ·subst h0
  go_enter Tryz.func35, Tryz.ntmps35
  go_wp2
  go_ret2
  exact ⟨by rw [jeql64 a b a0 a1 b0 b1]; rfl, rfl⟩
 by_cases h1 : op = 32
 ·subst h1
  go_enter Tryz.func35, Tryz.ntmps35
  go_wp2
  go_ret2
  exact ⟨by rw [jgtr64 a b a0 a1 b0 b1]; rfl, rfl⟩
 by_cases h2 : op = 48
 ·subst h2
  go_enter Tryz.func35, Tryz.ntmps35
  go_wp2
  go_ret2
  exact ⟨by rw [jgeq64 a b a0 a1 b0 b1]; rfl, rfl⟩
 by_cases h3 : op = 64
 ·subst h3
  go_enter Tryz.func35, Tryz.ntmps35
  go_wp2
  go_ret2
  exact ⟨by rw [jset64 a b a0 a1 b0 b1]; rfl, rfl⟩
 by_cases h4 : op = 80
 ·subst h4
  go_enter Tryz.func35, Tryz.ntmps35
  go_wp2
  go_ret2
  exact ⟨by rw [jneq64 a b a0 a1 b0 b1]; rfl, rfl⟩
 by_cases h5 : op = 96
 ·subst h5
  go_enter Tryz.func35, Tryz.ntmps35
  go_wp2
  go_ret2
  exact ⟨by rw [toInt64, toInt64]; rfl, rfl⟩
 by_cases h6 : op = 112
 ·subst h6
  go_enter Tryz.func35, Tryz.ntmps35
  go_wp2
  go_ret2
  exact ⟨by rw [toInt64, toInt64]; rfl, rfl⟩
 by_cases h7 : op = 160
 ·subst h7
  go_enter Tryz.func35, Tryz.ntmps35
  go_wp2
  go_ret2
  exact ⟨by rw [jlss64 a b a0 a1 b0 b1]; rfl, rfl⟩
 by_cases h8 : op = 176
 ·subst h8
  go_enter Tryz.func35, Tryz.ntmps35
  go_wp2
  go_ret2
  exact ⟨by rw [jleq64 a b a0 a1 b0 b1]; rfl, rfl⟩
 by_cases h9 : op = 192
 ·subst h9
  go_enter Tryz.func35, Tryz.ntmps35
  go_wp2
  go_ret2
  exact ⟨by rw [toInt64, toInt64]; rfl, rfl⟩
 by_cases h10 : op = 208
 ·subst h10
  go_enter Tryz.func35, Tryz.ntmps35
  go_wp2
  go_ret2
  exact ⟨by rw [toInt64, toInt64]; rfl, rfl⟩
 have e0 : (op == 16) = false := by simp [h0]
 have e1 : (op == 32) = false := by simp [h1]
 have e2 : (op == 48) = false := by simp [h2]
 have e3 : (op == 64) = false := by simp [h3]
 have e4 : (op == 80) = false := by simp [h4]
 have e5 : (op == 96) = false := by simp [h5]
 have e6 : (op == 112) = false := by simp [h6]
 have e7 : (op == 160) = false := by simp [h7]
 have e8 : (op == 176) = false := by simp [h8]
 have e9 : (op == 192) = false := by simp [h9]
 have e10 : (op == 208) = false := by simp [h10]
 have hv : jmpV 64 op (b64 a) (b64 b) = false := by simp only [jmpV, if_neg h0, if_neg h1, if_neg h2, if_neg h3, if_neg h4, if_neg h5, if_neg h6, if_neg h7, if_neg h8, if_neg h9, if_neg h10]
 have hi : jmpIs op = false := by simp only [jmpIs, e0, e1, e2, e3, e4, e5, e6, e7, e8, e9, e10]; rfl
 rw [hv, hi]
 clear hv hi h0 h1 h2 h3 h4 h5 h6 h7 h8 h9 h10
 go_enter Tryz.func35, Tryz.ntmps35
 go_wp2
 go_ret2
 exact ⟨rfl, rfl⟩
set_option maxRecDepth 100000 in
set_option maxHeartbeats 1000000 in
theorem comp32 (op a b : Int) (w : World) (a0 : 0 ≤ a) (a1 : a ≤ 4294967295) (b0 : 0 ≤ b) (b1 : b ≤ 4294967295) :
  Calls Tryz.prog 36 #[.int .i64 op, .int .u32 a, .int .u32 b] w fun e w' => e = .returned (.tuple #[.bool (jmpV 32 op (b32 a) (b32 b)), .bool (jmpIs op)]) ∧ w = w' := by
 by_cases h0 : op = 16
 ·subst h0
  go_enter Tryz.func36, Tryz.ntmps36
  go_wp2
  go_ret2
  exact ⟨by rw [jeql32 a b a0 a1 b0 b1]; rfl, rfl⟩
 by_cases h1 : op = 32
 ·subst h1
  go_enter Tryz.func36, Tryz.ntmps36
  go_wp2
  go_ret2
  exact ⟨by rw [jgtr32 a b a0 a1 b0 b1]; rfl, rfl⟩
 by_cases h2 : op = 48
 ·subst h2
  go_enter Tryz.func36, Tryz.ntmps36
  go_wp2
  go_ret2
  exact ⟨by rw [jgeq32 a b a0 a1 b0 b1]; rfl, rfl⟩
 by_cases h3 : op = 64
 ·subst h3
  go_enter Tryz.func36, Tryz.ntmps36
  go_wp2
  go_ret2
  exact ⟨by rw [jset32 a b a0 a1 b0 b1]; rfl, rfl⟩
 by_cases h4 : op = 80
 ·subst h4
  go_enter Tryz.func36, Tryz.ntmps36
  go_wp2
  go_ret2
  exact ⟨by rw [jneq32 a b a0 a1 b0 b1]; rfl, rfl⟩
 by_cases h5 : op = 96
 ·subst h5
  go_enter Tryz.func36, Tryz.ntmps36
  go_wp2
  go_ret2
  exact ⟨by rw [toInt32, toInt32]; rfl, rfl⟩
 by_cases h6 : op = 112
 ·subst h6
  go_enter Tryz.func36, Tryz.ntmps36
  go_wp2
  go_ret2
  exact ⟨by rw [toInt32, toInt32]; rfl, rfl⟩
 by_cases h7 : op = 160
 ·subst h7
  go_enter Tryz.func36, Tryz.ntmps36
  go_wp2
  go_ret2
  exact ⟨by rw [jlss32 a b a0 a1 b0 b1]; rfl, rfl⟩
 by_cases h8 : op = 176
 ·subst h8
  go_enter Tryz.func36, Tryz.ntmps36
  go_wp2
  go_ret2
  exact ⟨by rw [jleq32 a b a0 a1 b0 b1]; rfl, rfl⟩
 by_cases h9 : op = 192
 ·subst h9
  go_enter Tryz.func36, Tryz.ntmps36
  go_wp2
  go_ret2
  exact ⟨by rw [toInt32, toInt32]; rfl, rfl⟩
 by_cases h10 : op = 208
 ·subst h10
  go_enter Tryz.func36, Tryz.ntmps36
  go_wp2
  go_ret2
  exact ⟨by rw [toInt32, toInt32]; rfl, rfl⟩
 have e0 : (op == 16) = false := by simp [h0]
 have e1 : (op == 32) = false := by simp [h1]
 have e2 : (op == 48) = false := by simp [h2]
 have e3 : (op == 64) = false := by simp [h3]
 have e4 : (op == 80) = false := by simp [h4]
 have e5 : (op == 96) = false := by simp [h5]
 have e6 : (op == 112) = false := by simp [h6]
 have e7 : (op == 160) = false := by simp [h7]
 have e8 : (op == 176) = false := by simp [h8]
 have e9 : (op == 192) = false := by simp [h9]
 have e10 : (op == 208) = false := by simp [h10]
 have hv : jmpV 32 op (b32 a) (b32 b) = false := by simp only [jmpV, if_neg h0, if_neg h1, if_neg h2, if_neg h3, if_neg h4, if_neg h5, if_neg h6, if_neg h7, if_neg h8, if_neg h9, if_neg h10]
 have hi : jmpIs op = false := by simp only [jmpIs, e0, e1, e2, e3, e4, e5, e6, e7, e8, e9, e10]; rfl
 rw [hv, hi]
 clear hv hi h0 h1 h2 h3 h4 h5 h6 h7 h8 h9 h10
 go_enter Tryz.func36, Tryz.ntmps36
 go_wp2
 go_ret2
 exact ⟨rfl, rfl⟩
end Go.Proofs.YtmcapfbkedfdkaaGreatDoor.WordA
