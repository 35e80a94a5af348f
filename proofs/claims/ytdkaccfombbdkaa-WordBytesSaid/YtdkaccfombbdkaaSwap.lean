/-
  Contracts of Swap, the program's and the document's.
-/
import Derived.Test.YtdkaccfombbdkaaWordA
import Derived.Test.YtdkaccfombbdkaaRefA
import Derived.Test.YtdkaccfombbdkaaNumB
namespace Go.Proofs.Ytdkaccfombbdkaa.Swap
open Go.RowKit Go.Proofs.Ytdkaccfombbdkaa.Num
set_option maxRecDepth 100000 in
theorem rev_any (a : Int) (w : World) (a0 : 0 ≤ a) (a1 : a ≤ 18446744073709551615) :
    Calls Try.prog 36 #[.int .u64 a] w fun e w' => e = .returned (.int .u64 (tn (revV (b64 a)))) ∧ w = w' := by
  obtain ⟨x, rfl⟩ : ∃ x, a = tn x := ⟨b64 a, (tn_b64 a a0 a1).symm⟩
  rw [b64_tn]
  go_enter Try.func36, Try.ntmps36
  go_wp2
  go_ret
  exact ⟨by simp only [tn_shr8, tn_shr16, tn_shr32, tn_shl8, tn_shl16, tn_shl32, tn_m8, tn_m16, tn_or]; rfl, rfl⟩

theorem wswap_any (n : Int) (big : Bool) (a : Int) (w : World) (a0 : 0 ≤ a) (a1 : a ≤ 18446744073709551615) :
    Calls Try.prog 15 #[.int .i64 n, .bool big, .int .u64 a] w fun e w' => e = .returned (.tuple #[.int .u64 (swapA n big a), .bool (swapIs n)]) ∧ w = w' := by
  by_cases h0 : n = 16
  · subst h0
    cases big
    · go_enter Try.func15, Try.ntmps15
      go_wp2
      go_ret2
      exact ⟨by rw [← swapA_16]; rfl, rfl⟩
    · go_enter Try.func15, Try.ntmps15
      go_wp2_with fail
      refine (rev_any _ _ a0 a1).mono ?_; rintro e w' ⟨rfl, rfl⟩
      have lo := tn_lo (revV (b64 a)); have hi := tn_hi64 (revV (b64 a))
      go_wp2
      go_ret2
      exact ⟨by rw [← swapA_16b]; rfl, rfl⟩
  by_cases h1 : n = 32
  · subst h1
    cases big
    · go_enter Try.func15, Try.ntmps15
      go_wp2
      go_ret2
      exact ⟨by rw [← swapA_32]; rfl, rfl⟩
    · go_enter Try.func15, Try.ntmps15
      go_wp2_with fail
      refine (rev_any _ _ a0 a1).mono ?_; rintro e w' ⟨rfl, rfl⟩
      have lo := tn_lo (revV (b64 a)); have hi := tn_hi64 (revV (b64 a))
      go_wp2
      go_ret2
      exact ⟨by rw [← swapA_32b]; rfl, rfl⟩
  by_cases h2 : n = 64
  · subst h2
    cases big
    · go_enter Try.func15, Try.ntmps15
      go_wp2
      go_ret2
      exact ⟨by rw [← swapA_64 a a0 a1]; rfl, rfl⟩
    · go_enter Try.func15, Try.ntmps15
      go_wp2_with fail
      refine (rev_any _ _ a0 a1).mono ?_; rintro e w' ⟨rfl, rfl⟩
      have lo := tn_lo (revV (b64 a)); have hi := tn_hi64 (revV (b64 a))
      go_wp2
      go_ret2
      exact ⟨by rw [← swapA_64b]; rfl, rfl⟩
  have e0 : (n == 16) = false := by simp [h0]
  have e1 : (n == 32) = false := by simp [h1]
  have e2 : (n == 64) = false := by simp [h2]
  have hi : swapIs n = false := by simp only [swapIs, e0, e1, e2]; rfl
  have hv : swapA n big a = 0 := by simp [swapA, hi]
  rw [hv, hi]; clear hv hi h0 h1 h2
  go_enter Try.func15, Try.ntmps15
  go_wp2
  go_ret2
  exact ⟨rfl, rfl⟩
theorem rswap_any (n : Int) (big : Bool) (a : Int) (w : World) (a0 : 0 ≤ a) (a1 : a ≤ 18446744073709551615) :
    Calls Try.prog 16 #[.int .i64 n, .bool big, .int .u64 a] w fun e w' => e = .returned (.tuple #[.int .u64 (swapA n big a), .bool (swapIs n)]) ∧ w = w' := by
  by_cases h0 : n = 16
  · subst h0
    have cut := RefA.cut_any a 16 w a0 (by decide) (by decide)
    have ce : ((a.toNat % 2 ^ (16 : Int).toNat : Nat) : Int) = swapA 16 false a := by
      show ((a.toNat % 65536 : Nat) : Int) = a % 65536; omega
    rw [ce] at cut
    cases big
    · go_enter Try.func16, Try.ntmps16
      go_wp2_with fail
      refine cut.mono ?_; rintro e w' ⟨rfl, rfl⟩
      go_wp2
      go_ret2
      exact ⟨rfl, rfl⟩
    · have gs := gather_swap 16 (by decide) (swapA 16 false a).toNat (b64 a) (fun j hj => by
        have e : (b64 a).toNat = a.toNat := by have := toNat64 a a0 a1; omega
        have e2 : (swapA 16 false a).toNat = a.toNat % 2 ^ 16 := by
          rw [← ce, Int.toNat_natCast]; rfl
        rw [← BitVec.testBit_toNat, e, e2, Nat.testBit_mod_two_pow]; simp [hj])
      have fin : swapA 16 true a = ((gather (fun i => (swapA 16 false a).toNat.testBit i) (posS 16) 16 : Nat) : Int) := by rw [gs]; rfl
      have cb : 0 ≤ swapA 16 false a := by rw [← ce]; omega
      rw [fin]; clear fin gs ce
      generalize swapA 16 false a = d at cut cb
      go_enter Try.func16, Try.ntmps16
      have Cut := hid cut; clear cut
      go_wp2_with fail
      refine Cut.out.mono ?_; rintro e w' ⟨rfl, rfl⟩
      clear Cut
      go_wp2
      go_loop [8, 9] (fun o i => ∃ k : Nat, k ≤ 16 ∧ i = .int .i64 k ∧ o = .int .u64 (gather (fun i => d.toNat.testBit i) (posS 16) k : Nat)) (fun _ i => 16 - (intOf i).toNat)
      case atStart => exact ⟨0, Nat.zero_le _, rfl, rfl⟩
      case round =>
        obtain ⟨k, hk, rfl, rfl⟩ := hrel
        by_cases hlt : k < 16
        · go_wp2_with (go_at_call 37; refine (RefA.bit_any _ _ _ cb (by omega) (by omega)).mono ?_; rintro e w' ⟨rfl, rfl⟩)
          · go_round
            case rel => exact ⟨k + 1, by omega, by go_num, val_u64 (gather_yes _ (posS 16) k (by assumption) (gather_swap_lt 16 (by decide) _ _ (by omega)))⟩
            case measure => simp [intOf]; omega
          · go_round
            case rel => exact ⟨k + 1, by omega, by go_num, val_u64 (by rw [gather_no _ (posS 16) k (by assumption)])⟩
            case measure => simp [intOf]; omega
        · go_wp2
          have : k = 16 := by omega
          subst this
          go_ret2
          exact ⟨rfl, rfl⟩
  by_cases h1 : n = 32
  · subst h1
    have cut := RefA.cut_any a 32 w a0 (by decide) (by decide)
    have ce : ((a.toNat % 2 ^ (32 : Int).toNat : Nat) : Int) = swapA 32 false a := by
      show ((a.toNat % 4294967296 : Nat) : Int) = a % 4294967296; omega
    rw [ce] at cut
    cases big
    · go_enter Try.func16, Try.ntmps16
      go_wp2_with fail
      refine cut.mono ?_; rintro e w' ⟨rfl, rfl⟩
      go_wp2
      go_ret2
      exact ⟨rfl, rfl⟩
    · have gs := gather_swap 32 (by decide) (swapA 32 false a).toNat (b64 a) (fun j hj => by
        have e : (b64 a).toNat = a.toNat := by have := toNat64 a a0 a1; omega
        have e2 : (swapA 32 false a).toNat = a.toNat % 2 ^ 32 := by
          rw [← ce, Int.toNat_natCast]; rfl
        rw [← BitVec.testBit_toNat, e, e2, Nat.testBit_mod_two_pow]; simp [hj])
      have fin : swapA 32 true a = ((gather (fun i => (swapA 32 false a).toNat.testBit i) (posS 32) 32 : Nat) : Int) := by rw [gs]; rfl
      have cb : 0 ≤ swapA 32 false a := by rw [← ce]; omega
      rw [fin]; clear fin gs ce
      generalize swapA 32 false a = d at cut cb
      go_enter Try.func16, Try.ntmps16
      have Cut := hid cut; clear cut
      go_wp2_with fail
      refine Cut.out.mono ?_; rintro e w' ⟨rfl, rfl⟩
      clear Cut
      go_wp2
      go_loop [8, 9] (fun o i => ∃ k : Nat, k ≤ 32 ∧ i = .int .i64 k ∧ o = .int .u64 (gather (fun i => d.toNat.testBit i) (posS 32) k : Nat)) (fun _ i => 32 - (intOf i).toNat)
      case atStart => exact ⟨0, Nat.zero_le _, rfl, rfl⟩
      case round =>
        obtain ⟨k, hk, rfl, rfl⟩ := hrel
        by_cases hlt : k < 32
        · go_wp2_with (go_at_call 37; refine (RefA.bit_any _ _ _ cb (by omega) (by omega)).mono ?_; rintro e w' ⟨rfl, rfl⟩)
          · go_round
            case rel => exact ⟨k + 1, by omega, by go_num, val_u64 (gather_yes _ (posS 32) k (by assumption) (gather_swap_lt 32 (by decide) _ _ (by omega)))⟩
            case measure => simp [intOf]; omega
          · go_round
            case rel => exact ⟨k + 1, by omega, by go_num, val_u64 (by rw [gather_no _ (posS 32) k (by assumption)])⟩
            case measure => simp [intOf]; omega
        · go_wp2
          have : k = 32 := by omega
          subst this
          go_ret2
          exact ⟨rfl, rfl⟩
  by_cases h2 : n = 64
  · subst h2
    have cut := RefA.cut_any a 64 w a0 (by decide) (by decide)
    have ce : ((a.toNat % 2 ^ (64 : Int).toNat : Nat) : Int) = swapA 64 false a := by
      show ((a.toNat % 18446744073709551616 : Nat) : Int) = a % 18446744073709551616; omega
    rw [ce] at cut
    cases big
    · go_enter Try.func16, Try.ntmps16
      go_wp2_with fail
      refine cut.mono ?_; rintro e w' ⟨rfl, rfl⟩
      go_wp2
      go_ret2
      exact ⟨rfl, rfl⟩
    · have gs := gather_swap 64 (by decide) (swapA 64 false a).toNat (b64 a) (fun j hj => by
        have e : (b64 a).toNat = a.toNat := by have := toNat64 a a0 a1; omega
        have e2 : (swapA 64 false a).toNat = a.toNat % 2 ^ 64 := by
          rw [← ce, Int.toNat_natCast]; rfl
        rw [← BitVec.testBit_toNat, e, e2, Nat.testBit_mod_two_pow]; simp [hj])
      have fin : swapA 64 true a = ((gather (fun i => (swapA 64 false a).toNat.testBit i) (posS 64) 64 : Nat) : Int) := by rw [gs]; rfl
      have cb : 0 ≤ swapA 64 false a := by rw [← ce]; omega
      rw [fin]; clear fin gs ce
      generalize swapA 64 false a = d at cut cb
      go_enter Try.func16, Try.ntmps16
      have Cut := hid cut; clear cut
      go_wp2_with fail
      refine Cut.out.mono ?_; rintro e w' ⟨rfl, rfl⟩
      clear Cut
      go_wp2
      go_loop [8, 9] (fun o i => ∃ k : Nat, k ≤ 64 ∧ i = .int .i64 k ∧ o = .int .u64 (gather (fun i => d.toNat.testBit i) (posS 64) k : Nat)) (fun _ i => 64 - (intOf i).toNat)
      case atStart => exact ⟨0, Nat.zero_le _, rfl, rfl⟩
      case round =>
        obtain ⟨k, hk, rfl, rfl⟩ := hrel
        by_cases hlt : k < 64
        · go_wp2_with (go_at_call 37; refine (RefA.bit_any _ _ _ cb (by omega) (by omega)).mono ?_; rintro e w' ⟨rfl, rfl⟩)
          · go_round
            case rel => exact ⟨k + 1, by omega, by go_num, val_u64 (gather_yes _ (posS 64) k (by assumption) (gather_swap_lt 64 (by decide) _ _ (by omega)))⟩
            case measure => simp [intOf]; omega
          · go_round
            case rel => exact ⟨k + 1, by omega, by go_num, val_u64 (by rw [gather_no _ (posS 64) k (by assumption)])⟩
            case measure => simp [intOf]; omega
        · go_wp2
          have : k = 64 := by omega
          subst this
          go_ret2
          exact ⟨rfl, rfl⟩
  have e0 : (n == 16) = false := by simp [h0]
  have f0 : (n != 16) = true := by simp [h0]
  have e1 : (n == 32) = false := by simp [h1]
  have f1 : (n != 32) = true := by simp [h1]
  have e2 : (n == 64) = false := by simp [h2]
  have f2 : (n != 64) = true := by simp [h2]
  have hi : swapIs n = false := by simp only [swapIs, e0, e1, e2]; rfl
  have hv : swapA n big a = 0 := by simp [swapA, hi]
  rw [hv, hi]; clear hv hi h0 h1 h2
  go_enter Try.func16, Try.ntmps16
  go_wp2
  go_ret2
  exact ⟨rfl, rfl⟩
end Go.Proofs.Ytdkaccfombbdkaa.Swap
