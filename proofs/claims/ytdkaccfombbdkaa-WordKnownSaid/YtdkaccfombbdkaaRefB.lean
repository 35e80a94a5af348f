/-
  Contracts of the document's answers for numbers: bitwise, shift.
-/
import Derived.Test.YtdkaccfombbdkaaRefA
namespace Go.Proofs.Ytdkaccfombbdkaa.RefA
open Go.RowKit Go.Proofs.Ytdkaccfombbdkaa.Num

theorem bitw_or (a b : Int) (w : World) (a0 : 0 ≤ a) (a1 : a ≤ 18446744073709551615) (b0 : 0 ≤ b) (b1 : b ≤ 18446744073709551615) :
    Calls Try.prog 30 #[.int .i64 64, .int .u64 a, .int .u64 b] w fun e w' => e = .returned (.int .u64 ((a.toNat ||| b.toNat : Nat) : Int)) ∧ w = w' := by
  have fin : gather (fun i => (a.toNat.testBit i || b.toNat.testBit i)) id 64 = a.toNat ||| b.toNat := by
    refine gather_is _ _ _ (Nat.or_lt_two_pow (by omega) (by omega)) (fun j _ => ?_)
    rw [Nat.testBit_or]
  rw [← fin]; clear fin
  go_enter Try.func30, Try.ntmps30
  go_wp2
  go_loop [7, 8, 9, 10] (fun o i _ _ => ∃ k : Nat, k ≤ 64 ∧ i = .int .i64 k ∧ o = .int .u64 (gather (fun i => (a.toNat.testBit i || b.toNat.testBit i)) id k : Nat)) (fun _ i _ _ => 64 - (intOf i).toNat)
  case atStart => exact ⟨0, Nat.zero_le _, rfl, rfl⟩
  case round =>
    obtain ⟨k, hk, rfl, rfl⟩ := hrel
    by_cases hlt : k < 64
    · cases hx : a.toNat.testBit k <;> cases hy : b.toNat.testBit k
      all_goals
        go_wp2_with (go_at_call 37; refine (bit_any _ _ _ (by omega) (by omega) (by omega)).mono ?_; rintro e w' ⟨rfl, rfl⟩)
        go_round
        case rel => exact ⟨k + 1, by omega, by go_num, val_u64 (by first | (rw [gather_no _ id k (by simp [hx, hy])]; done) | exact gather_yes _ id k (by simp [hx, hy]) (gather_id_lt64 _ _ (by omega)))⟩
        case measure => simp [intOf]; omega
    · go_wp2
      have : k = 64 := by omega
      subst this
      go_ret
      exact ⟨rfl, rfl⟩

theorem bitw_and (a b : Int) (w : World) (a0 : 0 ≤ a) (_a1 : a ≤ 18446744073709551615) (b0 : 0 ≤ b) (b1 : b ≤ 18446744073709551615) :
    Calls Try.prog 30 #[.int .i64 80, .int .u64 a, .int .u64 b] w fun e w' => e = .returned (.int .u64 ((a.toNat &&& b.toNat : Nat) : Int)) ∧ w = w' := by
  have fin : gather (fun i => (a.toNat.testBit i && b.toNat.testBit i)) id 64 = a.toNat &&& b.toNat := by
    refine gather_is _ _ _ (Nat.and_lt_two_pow _ (by omega)) (fun j _ => ?_)
    rw [Nat.testBit_and]
  rw [← fin]; clear fin
  go_enter Try.func30, Try.ntmps30
  go_wp2
  go_loop [7, 8, 9, 10] (fun o i _ _ => ∃ k : Nat, k ≤ 64 ∧ i = .int .i64 k ∧ o = .int .u64 (gather (fun i => (a.toNat.testBit i && b.toNat.testBit i)) id k : Nat)) (fun _ i _ _ => 64 - (intOf i).toNat)
  case atStart => exact ⟨0, Nat.zero_le _, rfl, rfl⟩
  case round =>
    obtain ⟨k, hk, rfl, rfl⟩ := hrel
    by_cases hlt : k < 64
    · cases hx : a.toNat.testBit k <;> cases hy : b.toNat.testBit k
      all_goals
        go_wp2_with (go_at_call 37; refine (bit_any _ _ _ (by omega) (by omega) (by omega)).mono ?_; rintro e w' ⟨rfl, rfl⟩)
        go_round
        case rel => exact ⟨k + 1, by omega, by go_num, val_u64 (by first | (rw [gather_no _ id k (by simp [hx, hy])]; done) | exact gather_yes _ id k (by simp [hx, hy]) (gather_id_lt64 _ _ (by omega)))⟩
        case measure => simp [intOf]; omega
    · go_wp2
      have : k = 64 := by omega
      subst this
      go_ret
      exact ⟨rfl, rfl⟩

theorem bitw_xor (a b : Int) (w : World) (a0 : 0 ≤ a) (a1 : a ≤ 18446744073709551615) (b0 : 0 ≤ b) (b1 : b ≤ 18446744073709551615) :
    Calls Try.prog 30 #[.int .i64 160, .int .u64 a, .int .u64 b] w fun e w' => e = .returned (.int .u64 ((a.toNat ^^^ b.toNat : Nat) : Int)) ∧ w = w' := by
  have fin : gather (fun i => (a.toNat.testBit i ^^ b.toNat.testBit i)) id 64 = a.toNat ^^^ b.toNat := by
    refine gather_is _ _ _ (Nat.xor_lt_two_pow (by omega) (by omega)) (fun j _ => ?_)
    rw [Nat.testBit_xor]
  rw [← fin]; clear fin
  go_enter Try.func30, Try.ntmps30
  go_wp2
  go_loop [7, 8, 9, 10] (fun o i _ _ => ∃ k : Nat, k ≤ 64 ∧ i = .int .i64 k ∧ o = .int .u64 (gather (fun i => (a.toNat.testBit i ^^ b.toNat.testBit i)) id k : Nat)) (fun _ i _ _ => 64 - (intOf i).toNat)
  case atStart => exact ⟨0, Nat.zero_le _, rfl, rfl⟩
  case round =>
    obtain ⟨k, hk, rfl, rfl⟩ := hrel
    by_cases hlt : k < 64
    · cases hx : a.toNat.testBit k <;> cases hy : b.toNat.testBit k
      all_goals
        go_wp2_with (go_at_call 37; refine (bit_any _ _ _ (by omega) (by omega) (by omega)).mono ?_; rintro e w' ⟨rfl, rfl⟩)
        go_round
        case rel => exact ⟨k + 1, by omega, by go_num, val_u64 (by first | (rw [gather_no _ id k (by simp [hx, hy])]; done) | exact gather_yes _ id k (by simp [hx, hy]) (gather_id_lt64 _ _ (by omega)))⟩
        case measure => simp [intOf]; omega
    · go_wp2
      have : k = 64 := by omega
      subst this
      go_ret
      exact ⟨rfl, rfl⟩

set_option maxHeartbeats 400000 in
theorem shift_shl64 (a b : Int) (w : World) (a0 : 0 ≤ a) (a1 : a ≤ 18446744073709551615) (b0 : 0 ≤ b) (b1 : b ≤ 18446744073709551615) :
    Calls Try.prog 31 #[.int .i64 96, .int .i64 64, .int .u64 a, .int .u64 b] w fun e w' => e = .returned (.int .u64 (tn (b64 a <<< (b.toNat % 64)))) ∧ w = w' := by
  have hs : b.toNat % 64 < 64 := Nat.mod_lt _ (by decide)
  have ek : b % 64 = ((b.toNat % 64 : Nat) : Int) := by omega
  generalize b.toNat % 64 = s at hs ek
  have hb : ∀ j, (b64 a).getLsbD j = a.toNat.testBit j := fun j => by
    have e : (b64 a).toNat = a.toNat := by have := toNat64 a a0 a1; omega
    rw [← BitVec.testBit_toNat, e]
  have hP : ∀ k, k < 64 → (b64 a <<< s).getLsbD k = (if k < s then false else a.toNat.testBit (k - s)) := fun k hk => by rw [BitVec.getLsbD_shiftLeft, hb]; by_cases h : k < s <;> simp [h, hk]
  have hp := hid hb; clear hb
  have hq := hid hP; clear hP
  have fin : gather (fun i => (b64 a <<< s).getLsbD i) id 64 = (b64 a <<< s).toNat := gather_is _ _ _ (b64 a <<< s).isLt (fun j _ => rfl)
  show Calls _ _ _ _ fun e w' => e = .returned (.int .u64 ((b64 a <<< s).toNat : Int)) ∧ w = w'
  rw [← fin]; clear fin
  generalize hv : (fun i => (b64 a <<< s).getLsbD i) = P
  have hP' : Hid (∀ k, k < 64 → P k = (if k < s then false else a.toNat.testBit (k - s))) := by subst hv; exact hq
  clear hq hp hv
  go_enter Try.func31, Try.ntmps31
  go_wp2
  clear ek
  go_loop [10, 11, 12, 13] (fun o i _ _ => ∃ k : Nat, k ≤ 64 ∧ i = .int .i64 k ∧ o = .int .u64 (gather P id k : Nat)) (fun _ i _ _ => 64 - (intOf i).toNat)
  case atStart => exact ⟨0, Nat.zero_le _, rfl, rfl⟩
  case round =>
    obtain ⟨k, hk, rfl, rfl⟩ := hrel
    by_cases hlt : k < 64
    · have hPk := hP'.out k hlt
      by_cases hc : k < s
      · rw [if_pos hc] at hPk
        have hR := hid hPk; clear hPk
        go_wp2_with (go_at_call 37; refine (bit_any _ _ _ a0 (by omega) (by omega)).mono ?_; rintro e w' ⟨rfl, rfl⟩)
        all_goals
          go_round
          case rel => exact ⟨k + 1, by omega, by go_num, val_u64 (by first | (rw [gather_no _ id k (by first | exact hR.out | exact hR.out.trans (by assumption))]; done) | exact gather_yes _ id k (by first | exact hR.out | exact hR.out.trans (by assumption)) (gather_id_lt64 _ _ (by omega)))⟩
          case measure => simp [intOf]; omega
      · rw [if_neg hc] at hPk
        have hR := hid hPk; clear hPk
        go_wp2_with (go_at_call 37; refine (bit_any _ _ _ a0 (by omega) (by omega)).mono ?_; rintro e w' ⟨rfl, rfl⟩)
        all_goals
          go_round
          case rel => exact ⟨k + 1, by omega, by go_num, val_u64 (by first | (rw [gather_no _ id k (by first | exact hR.out | exact hR.out.trans (by assumption))]; done) | exact gather_yes _ id k (by first | exact hR.out | exact hR.out.trans (by assumption)) (gather_id_lt64 _ _ (by omega)))⟩
          case measure => simp [intOf]; omega
    · go_wp2
      have : k = 64 := by omega
      subst this
      go_ret
      exact ⟨rfl, rfl⟩

set_option maxHeartbeats 400000 in
theorem shift_shr64 (a b : Int) (w : World) (a0 : 0 ≤ a) (a1 : a ≤ 18446744073709551615) (b0 : 0 ≤ b) (b1 : b ≤ 18446744073709551615) :
    Calls Try.prog 31 #[.int .i64 112, .int .i64 64, .int .u64 a, .int .u64 b] w fun e w' => e = .returned (.int .u64 (tn (b64 a >>> (b.toNat % 64)))) ∧ w = w' := by
  have hs : b.toNat % 64 < 64 := Nat.mod_lt _ (by decide)
  have ek : b % 64 = ((b.toNat % 64 : Nat) : Int) := by omega
  generalize b.toNat % 64 = s at hs ek
  have hb : ∀ j, (b64 a).getLsbD j = a.toNat.testBit j := fun j => by
    have e : (b64 a).toNat = a.toNat := by have := toNat64 a a0 a1; omega
    rw [← BitVec.testBit_toNat, e]
  have hP : ∀ k, k < 64 → (b64 a >>> s).getLsbD k = (if k + s < 64 then a.toNat.testBit (k + s) else false) := fun k hk => by
    rw [BitVec.getLsbD_ushiftRight, Nat.add_comm]; by_cases h : k + s < 64
    · rw [if_pos h, hb]
    · rw [if_neg h]; exact BitVec.getLsbD_of_ge _ _ (by omega)
  have hp := hid hb; clear hb
  have hq := hid hP; clear hP
  have fin : gather (fun i => (b64 a >>> s).getLsbD i) id 64 = (b64 a >>> s).toNat := gather_is _ _ _ (b64 a >>> s).isLt (fun j _ => rfl)
  show Calls _ _ _ _ fun e w' => e = .returned (.int .u64 ((b64 a >>> s).toNat : Int)) ∧ w = w'
  rw [← fin]; clear fin
  generalize hv : (fun i => (b64 a >>> s).getLsbD i) = P
  have hP' : Hid (∀ k, k < 64 → P k = (if k + s < 64 then a.toNat.testBit (k + s) else false)) := by subst hv; exact hq
  clear hq hp hv
  go_enter Try.func31, Try.ntmps31
  go_wp2
  clear ek
  go_loop [10, 11, 12, 13] (fun o i _ _ => ∃ k : Nat, k ≤ 64 ∧ i = .int .i64 k ∧ o = .int .u64 (gather P id k : Nat)) (fun _ i _ _ => 64 - (intOf i).toNat)
  case atStart => exact ⟨0, Nat.zero_le _, rfl, rfl⟩
  case round =>
    obtain ⟨k, hk, rfl, rfl⟩ := hrel
    by_cases hlt : k < 64
    · have hPk := hP'.out k hlt
      by_cases hc : k + s < 64
      · rw [if_pos hc] at hPk
        have hR := hid hPk; clear hPk
        have hd : decide ((k : Int) + s < 64) = true := by simp; omega
        go_wp2_with (go_at_call 37; refine (bit_any _ _ _ a0 (by omega) (by omega)).mono ?_; rintro e w' ⟨rfl, rfl⟩)
        all_goals
          go_round
          case rel => exact ⟨k + 1, by omega, by go_num, val_u64 (by first | (rw [gather_no _ id k (by first | exact hR.out | exact hR.out.trans (by assumption))]; done) | exact gather_yes _ id k (by first | exact hR.out | exact hR.out.trans (by assumption)) (gather_id_lt64 _ _ (by omega)))⟩
          case measure => simp [intOf]; omega
      · rw [if_neg hc] at hPk
        have hR := hid hPk; clear hPk
        have hd : decide ((k : Int) + s < 64) = false := by simp; omega
        clear hc
        go_wp2_with (go_at_call 37; refine (bit_any _ _ _ a0 (by omega) (by omega)).mono ?_; rintro e w' ⟨rfl, rfl⟩)
        all_goals
          go_round
          case rel => exact ⟨k + 1, by omega, by go_num, val_u64 (by first | (rw [gather_no _ id k (by first | exact hR.out | exact hR.out.trans (by assumption))]; done) | exact gather_yes _ id k (by first | exact hR.out | exact hR.out.trans (by assumption)) (gather_id_lt64 _ _ (by omega)))⟩
          case measure => simp [intOf]; omega
    · go_wp2
      have : k = 64 := by omega
      subst this
      go_ret
      exact ⟨rfl, rfl⟩

set_option maxHeartbeats 400000 in
theorem shift_sar64 (a b : Int) (w : World) (a0 : 0 ≤ a) (a1 : a ≤ 18446744073709551615) (b0 : 0 ≤ b) (b1 : b ≤ 18446744073709551615) :
    Calls Try.prog 31 #[.int .i64 192, .int .i64 64, .int .u64 a, .int .u64 b] w fun e w' => e = .returned (.int .u64 (tn ((b64 a).sshiftRight (b.toNat % 64)))) ∧ w = w' := by
  have hs : b.toNat % 64 < 64 := Nat.mod_lt _ (by decide)
  have ek : b % 64 = ((b.toNat % 64 : Nat) : Int) := by omega
  generalize b.toNat % 64 = s at hs ek
  have hb : ∀ j, (b64 a).getLsbD j = a.toNat.testBit j := fun j => by
    have e : (b64 a).toNat = a.toNat := by have := toNat64 a a0 a1; omega
    rw [← BitVec.testBit_toNat, e]
  have hP : ∀ k, k < 64 → ((b64 a).sshiftRight s).getLsbD k = (if k + s < 64 then a.toNat.testBit (k + s) else a.toNat.testBit (64 - 1)) := fun k hk => by
    rw [BitVec.getLsbD_sshiftRight, Nat.add_comm]; by_cases h : k + s < 64
    · rw [if_pos h, if_pos h, hb]; simp; omega
    · rw [if_neg h, if_neg h, BitVec.msb_eq_getLsbD_last, hb]; simp; omega
  have hp := hid hb; clear hb
  have hq := hid hP; clear hP
  have fin : gather (fun i => ((b64 a).sshiftRight s).getLsbD i) id 64 = ((b64 a).sshiftRight s).toNat := gather_is _ _ _ ((b64 a).sshiftRight s).isLt (fun j _ => rfl)
  show Calls _ _ _ _ fun e w' => e = .returned (.int .u64 (((b64 a).sshiftRight s).toNat : Int)) ∧ w = w'
  rw [← fin]; clear fin
  generalize hv : (fun i => ((b64 a).sshiftRight s).getLsbD i) = P
  have hP' : Hid (∀ k, k < 64 → P k = (if k + s < 64 then a.toNat.testBit (k + s) else a.toNat.testBit (64 - 1))) := by subst hv; exact hq
  clear hq hp hv
  go_enter Try.func31, Try.ntmps31
  go_wp2
  clear ek
  go_loop [10, 11, 12, 13] (fun o i _ _ => ∃ k : Nat, k ≤ 64 ∧ i = .int .i64 k ∧ o = .int .u64 (gather P id k : Nat)) (fun _ i _ _ => 64 - (intOf i).toNat)
  case atStart => exact ⟨0, Nat.zero_le _, rfl, rfl⟩
  case round =>
    obtain ⟨k, hk, rfl, rfl⟩ := hrel
    by_cases hlt : k < 64
    · have hPk := hP'.out k hlt
      by_cases hc : k + s < 64
      · rw [if_pos hc] at hPk
        have hR := hid hPk; clear hPk
        have hd : decide ((k : Int) + s < 64) = true := by simp; omega
        have hd' : decide (64 ≤ (k : Int) + s) = false := by simp; omega
        go_wp2_with (go_at_call 37; refine (bit_any _ _ _ a0 (by omega) (by omega)).mono ?_; rintro e w' ⟨rfl, rfl⟩)
        all_goals
          go_round
          case rel => exact ⟨k + 1, by omega, by go_num, val_u64 (by first | (rw [gather_no _ id k (by first | exact hR.out | exact hR.out.trans (by assumption))]; done) | exact gather_yes _ id k (by first | exact hR.out | exact hR.out.trans (by assumption)) (gather_id_lt64 _ _ (by omega)))⟩
          case measure => simp [intOf]; omega
      · rw [if_neg hc] at hPk
        have hR := hid hPk; clear hPk
        have hd : decide ((k : Int) + s < 64) = false := by simp; omega
        have hd' : decide (64 ≤ (k : Int) + s) = true := by simp; omega
        clear hc
        go_wp2_with (go_at_call 37; refine (bit_any _ _ _ a0 (by omega) (by omega)).mono ?_; rintro e w' ⟨rfl, rfl⟩)
        all_goals
          go_round
          case rel => exact ⟨k + 1, by omega, by go_num, val_u64 (by first | (rw [gather_no _ id k (by first | exact hR.out | exact hR.out.trans (by assumption))]; done) | exact gather_yes _ id k (by first | exact hR.out | exact hR.out.trans (by assumption)) (gather_id_lt64 _ _ (by omega)))⟩
          case measure => simp [intOf]; omega
    · go_wp2
      have : k = 64 := by omega
      subst this
      go_ret
      exact ⟨rfl, rfl⟩

set_option maxHeartbeats 400000 in
theorem shift_shl32 (a b : Int) (w : World) (a0 : 0 ≤ a) (a1 : a ≤ 4294967295) (b0 : 0 ≤ b) (b1 : b ≤ 18446744073709551615) :
    Calls Try.prog 31 #[.int .i64 96, .int .i64 32, .int .u64 a, .int .u64 b] w fun e w' => e = .returned (.int .u64 (tn (b32 a <<< (b.toNat % 32)))) ∧ w = w' := by
  have hs : b.toNat % 32 < 32 := Nat.mod_lt _ (by decide)
  have ek : b % 32 = ((b.toNat % 32 : Nat) : Int) := by omega
  generalize b.toNat % 32 = s at hs ek
  have hb : ∀ j, (b32 a).getLsbD j = a.toNat.testBit j := fun j => by
    have e : (b32 a).toNat = a.toNat := by have := toNat32 a a0 a1; omega
    rw [← BitVec.testBit_toNat, e]
  have hP : ∀ k, k < 32 → (b32 a <<< s).getLsbD k = (if k < s then false else a.toNat.testBit (k - s)) := fun k hk => by rw [BitVec.getLsbD_shiftLeft, hb]; by_cases h : k < s <;> simp [h, hk]
  have hp := hid hb; clear hb
  have hq := hid hP; clear hP
  have fin : gather (fun i => (b32 a <<< s).getLsbD i) id 32 = (b32 a <<< s).toNat := gather_is _ _ _ (b32 a <<< s).isLt (fun j _ => rfl)
  show Calls _ _ _ _ fun e w' => e = .returned (.int .u64 ((b32 a <<< s).toNat : Int)) ∧ w = w'
  rw [← fin]; clear fin
  generalize hv : (fun i => (b32 a <<< s).getLsbD i) = P
  have hP' : Hid (∀ k, k < 32 → P k = (if k < s then false else a.toNat.testBit (k - s))) := by subst hv; exact hq
  clear hq hp hv
  go_enter Try.func31, Try.ntmps31
  go_wp2
  clear ek
  go_loop [10, 11, 12, 13] (fun o i _ _ => ∃ k : Nat, k ≤ 32 ∧ i = .int .i64 k ∧ o = .int .u64 (gather P id k : Nat)) (fun _ i _ _ => 32 - (intOf i).toNat)
  case atStart => exact ⟨0, Nat.zero_le _, rfl, rfl⟩
  case round =>
    obtain ⟨k, hk, rfl, rfl⟩ := hrel
    by_cases hlt : k < 32
    · have hPk := hP'.out k hlt
      by_cases hc : k < s
      · rw [if_pos hc] at hPk
        have hR := hid hPk; clear hPk
        go_wp2_with (go_at_call 37; refine (bit_any _ _ _ a0 (by omega) (by omega)).mono ?_; rintro e w' ⟨rfl, rfl⟩)
        all_goals
          go_round
          case rel => exact ⟨k + 1, by omega, by go_num, val_u64 (by first | (rw [gather_no _ id k (by first | exact hR.out | exact hR.out.trans (by assumption))]; done) | exact gather_yes _ id k (by first | exact hR.out | exact hR.out.trans (by assumption)) (gather_id_lt64 _ _ (by omega)))⟩
          case measure => simp [intOf]; omega
      · rw [if_neg hc] at hPk
        have hR := hid hPk; clear hPk
        go_wp2_with (go_at_call 37; refine (bit_any _ _ _ a0 (by omega) (by omega)).mono ?_; rintro e w' ⟨rfl, rfl⟩)
        all_goals
          go_round
          case rel => exact ⟨k + 1, by omega, by go_num, val_u64 (by first | (rw [gather_no _ id k (by first | exact hR.out | exact hR.out.trans (by assumption))]; done) | exact gather_yes _ id k (by first | exact hR.out | exact hR.out.trans (by assumption)) (gather_id_lt64 _ _ (by omega)))⟩
          case measure => simp [intOf]; omega
    · go_wp2
      have : k = 32 := by omega
      subst this
      go_ret
      exact ⟨rfl, rfl⟩

set_option maxHeartbeats 400000 in
theorem shift_shr32 (a b : Int) (w : World) (a0 : 0 ≤ a) (a1 : a ≤ 4294967295) (b0 : 0 ≤ b) (b1 : b ≤ 18446744073709551615) :
    Calls Try.prog 31 #[.int .i64 112, .int .i64 32, .int .u64 a, .int .u64 b] w fun e w' => e = .returned (.int .u64 (tn (b32 a >>> (b.toNat % 32)))) ∧ w = w' := by
  have hs : b.toNat % 32 < 32 := Nat.mod_lt _ (by decide)
  have ek : b % 32 = ((b.toNat % 32 : Nat) : Int) := by omega
  generalize b.toNat % 32 = s at hs ek
  have hb : ∀ j, (b32 a).getLsbD j = a.toNat.testBit j := fun j => by
    have e : (b32 a).toNat = a.toNat := by have := toNat32 a a0 a1; omega
    rw [← BitVec.testBit_toNat, e]
  have hP : ∀ k, k < 32 → (b32 a >>> s).getLsbD k = (if k + s < 32 then a.toNat.testBit (k + s) else false) := fun k hk => by
    rw [BitVec.getLsbD_ushiftRight, Nat.add_comm]; by_cases h : k + s < 32
    · rw [if_pos h, hb]
    · rw [if_neg h]; exact BitVec.getLsbD_of_ge _ _ (by omega)
  have hp := hid hb; clear hb
  have hq := hid hP; clear hP
  have fin : gather (fun i => (b32 a >>> s).getLsbD i) id 32 = (b32 a >>> s).toNat := gather_is _ _ _ (b32 a >>> s).isLt (fun j _ => rfl)
  show Calls _ _ _ _ fun e w' => e = .returned (.int .u64 ((b32 a >>> s).toNat : Int)) ∧ w = w'
  rw [← fin]; clear fin
  generalize hv : (fun i => (b32 a >>> s).getLsbD i) = P
  have hP' : Hid (∀ k, k < 32 → P k = (if k + s < 32 then a.toNat.testBit (k + s) else false)) := by subst hv; exact hq
  clear hq hp hv
  go_enter Try.func31, Try.ntmps31
  go_wp2
  clear ek
  go_loop [10, 11, 12, 13] (fun o i _ _ => ∃ k : Nat, k ≤ 32 ∧ i = .int .i64 k ∧ o = .int .u64 (gather P id k : Nat)) (fun _ i _ _ => 32 - (intOf i).toNat)
  case atStart => exact ⟨0, Nat.zero_le _, rfl, rfl⟩
  case round =>
    obtain ⟨k, hk, rfl, rfl⟩ := hrel
    by_cases hlt : k < 32
    · have hPk := hP'.out k hlt
      by_cases hc : k + s < 32
      · rw [if_pos hc] at hPk
        have hR := hid hPk; clear hPk
        have hd : decide ((k : Int) + s < 32) = true := by simp; omega
        go_wp2_with (go_at_call 37; refine (bit_any _ _ _ a0 (by omega) (by omega)).mono ?_; rintro e w' ⟨rfl, rfl⟩)
        all_goals
          go_round
          case rel => exact ⟨k + 1, by omega, by go_num, val_u64 (by first | (rw [gather_no _ id k (by first | exact hR.out | exact hR.out.trans (by assumption))]; done) | exact gather_yes _ id k (by first | exact hR.out | exact hR.out.trans (by assumption)) (gather_id_lt64 _ _ (by omega)))⟩
          case measure => simp [intOf]; omega
      · rw [if_neg hc] at hPk
        have hR := hid hPk; clear hPk
        have hd : decide ((k : Int) + s < 32) = false := by simp; omega
        clear hc
        go_wp2_with (go_at_call 37; refine (bit_any _ _ _ a0 (by omega) (by omega)).mono ?_; rintro e w' ⟨rfl, rfl⟩)
        all_goals
          go_round
          case rel => exact ⟨k + 1, by omega, by go_num, val_u64 (by first | (rw [gather_no _ id k (by first | exact hR.out | exact hR.out.trans (by assumption))]; done) | exact gather_yes _ id k (by first | exact hR.out | exact hR.out.trans (by assumption)) (gather_id_lt64 _ _ (by omega)))⟩
          case measure => simp [intOf]; omega
    · go_wp2
      have : k = 32 := by omega
      subst this
      go_ret
      exact ⟨rfl, rfl⟩

set_option maxHeartbeats 400000 in
theorem shift_sar32 (a b : Int) (w : World) (a0 : 0 ≤ a) (a1 : a ≤ 4294967295) (b0 : 0 ≤ b) (b1 : b ≤ 18446744073709551615) :
    Calls Try.prog 31 #[.int .i64 192, .int .i64 32, .int .u64 a, .int .u64 b] w fun e w' => e = .returned (.int .u64 (tn ((b32 a).sshiftRight (b.toNat % 32)))) ∧ w = w' := by
  have hs : b.toNat % 32 < 32 := Nat.mod_lt _ (by decide)
  have ek : b % 32 = ((b.toNat % 32 : Nat) : Int) := by omega
  generalize b.toNat % 32 = s at hs ek
  have hb : ∀ j, (b32 a).getLsbD j = a.toNat.testBit j := fun j => by
    have e : (b32 a).toNat = a.toNat := by have := toNat32 a a0 a1; omega
    rw [← BitVec.testBit_toNat, e]
  have hP : ∀ k, k < 32 → ((b32 a).sshiftRight s).getLsbD k = (if k + s < 32 then a.toNat.testBit (k + s) else a.toNat.testBit (32 - 1)) := fun k hk => by
    rw [BitVec.getLsbD_sshiftRight, Nat.add_comm]; by_cases h : k + s < 32
    · rw [if_pos h, if_pos h, hb]; simp; omega
    · rw [if_neg h, if_neg h, BitVec.msb_eq_getLsbD_last, hb]; simp; omega
  have hp := hid hb; clear hb
  have hq := hid hP; clear hP
  have fin : gather (fun i => ((b32 a).sshiftRight s).getLsbD i) id 32 = ((b32 a).sshiftRight s).toNat := gather_is _ _ _ ((b32 a).sshiftRight s).isLt (fun j _ => rfl)
  show Calls _ _ _ _ fun e w' => e = .returned (.int .u64 (((b32 a).sshiftRight s).toNat : Int)) ∧ w = w'
  rw [← fin]; clear fin
  generalize hv : (fun i => ((b32 a).sshiftRight s).getLsbD i) = P
  have hP' : Hid (∀ k, k < 32 → P k = (if k + s < 32 then a.toNat.testBit (k + s) else a.toNat.testBit (32 - 1))) := by subst hv; exact hq
  clear hq hp hv
  go_enter Try.func31, Try.ntmps31
  go_wp2
  clear ek
  go_loop [10, 11, 12, 13] (fun o i _ _ => ∃ k : Nat, k ≤ 32 ∧ i = .int .i64 k ∧ o = .int .u64 (gather P id k : Nat)) (fun _ i _ _ => 32 - (intOf i).toNat)
  case atStart => exact ⟨0, Nat.zero_le _, rfl, rfl⟩
  case round =>
    obtain ⟨k, hk, rfl, rfl⟩ := hrel
    by_cases hlt : k < 32
    · have hPk := hP'.out k hlt
      by_cases hc : k + s < 32
      · rw [if_pos hc] at hPk
        have hR := hid hPk; clear hPk
        have hd : decide ((k : Int) + s < 32) = true := by simp; omega
        have hd' : decide (32 ≤ (k : Int) + s) = false := by simp; omega
        go_wp2_with (go_at_call 37; refine (bit_any _ _ _ a0 (by omega) (by omega)).mono ?_; rintro e w' ⟨rfl, rfl⟩)
        all_goals
          go_round
          case rel => exact ⟨k + 1, by omega, by go_num, val_u64 (by first | (rw [gather_no _ id k (by first | exact hR.out | exact hR.out.trans (by assumption))]; done) | exact gather_yes _ id k (by first | exact hR.out | exact hR.out.trans (by assumption)) (gather_id_lt64 _ _ (by omega)))⟩
          case measure => simp [intOf]; omega
      · rw [if_neg hc] at hPk
        have hR := hid hPk; clear hPk
        have hd : decide ((k : Int) + s < 32) = false := by simp; omega
        have hd' : decide (32 ≤ (k : Int) + s) = true := by simp; omega
        clear hc
        go_wp2_with (go_at_call 37; refine (bit_any _ _ _ a0 (by omega) (by omega)).mono ?_; rintro e w' ⟨rfl, rfl⟩)
        all_goals
          go_round
          case rel => exact ⟨k + 1, by omega, by go_num, val_u64 (by first | (rw [gather_no _ id k (by first | exact hR.out | exact hR.out.trans (by assumption))]; done) | exact gather_yes _ id k (by first | exact hR.out | exact hR.out.trans (by assumption)) (gather_id_lt64 _ _ (by omega)))⟩
          case measure => simp [intOf]; omega
    · go_wp2
      have : k = 32 := by omega
      subst this
      go_ret
      exact ⟨rfl, rfl⟩

end Go.Proofs.Ytdkaccfombbdkaa.RefA
