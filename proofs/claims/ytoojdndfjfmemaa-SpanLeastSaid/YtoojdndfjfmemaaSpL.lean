/-
  The contracts of the document's loops: Ones, by, halved, Bits.
-/
import Derived.Test.YtoojdndfjfmemaaOps
import Derived.LoopTactic
import Derived.IntWalk
import Derived.Deep.DeepCutAuto
namespace Go.Proofs.Ytoojdndfjfmemaa.Sp
open Go.RowKit Go.Proofs.Ytoojdndfjfmemaa.Num Go.Proofs.Ytoojdndfjfmemaa.Up
/-- So many bits as it takes to hold v. -/
def lenV (v : BitVec 64) : Nat := if v = 0#64 then 0 else Nat.log2 v.toNat + 1
theorem lenV_le (v : BitVec 64) : lenV v ≤ 64 := by
  unfold lenV
  split
  · omega
  · rename_i h
    have h0 : v.toNat ≠ 0 := fun e => h (BitVec.eq_of_toNat_eq e)
    have := (Nat.log2_lt h0).2 v.isLt
    omega
theorem lt_lenV (v : BitVec 64) (k : Nat) : 2 ^ k ≤ v.toNat ↔ k < lenV v := by
  unfold lenV
  split
  · rename_i h
    subst h
    have : 0 < 2 ^ k := Nat.two_pow_pos k
    simp
  · rename_i h
    have h0 : v.toNat ≠ 0 := fun e => h (BitVec.eq_of_toNat_eq e)
    rw [← Nat.le_log2 h0]; omega
def onesN (k : Nat) : Int := 2 ^ k - 1
theorem onesN_lt (v : BitVec 64) (k : Nat) : decide (onesN k < tn v) = decide (k < lenV v) := by
  have h := lt_lenV v k
  have h2 : (2 : Int) ^ k = ((2 ^ k : Nat) : Int) := by push_cast; rfl
  rw [decide_eq_decide, ← h]
  unfold onesN tn
  rw [h2]; omega
theorem onesN_bd (k : Nat) (h : k ≤ 64) : 0 ≤ onesN k ∧ onesN k ≤ 18446744073709551615 := by
  have h2 : (2 : Int) ^ k = ((2 ^ k : Nat) : Int) := by push_cast; rfl
  have h3 : 2 ^ k ≤ 2 ^ 64 := Nat.pow_le_pow_right (by decide) h
  have h4 : 0 < 2 ^ k := Nat.two_pow_pos k
  unfold onesN; rw [h2]; omega
theorem onesN_next (k : Nat) (h : k < 64) : IntKind.u64.wrap (IntKind.u64.wrap (2 * onesN k) + 1) = onesN (k + 1) := by
  have h1 := onesN_bd (k + 1) (by omega)
  have h2 : onesN (k + 1) = 2 * onesN k + 1 := by unfold onesN; rw [Int.pow_succ]; omega
  rw [IntKind.wrap_u64, IntKind.wrap_u64]; omega
/-- The least number of ones alone that is not below v. -/
def onesV (v : BitVec 64) : BitVec 64 := BitVec.ofInt 64 (onesN (lenV v))
theorem tn_onesV (v : BitVec 64) : tn (onesV v) = onesN (lenV v) := by
  have h := onesN_bd _ (lenV_le v)
  exact tn_b64 _ h.1 h.2
set_option maxHeartbeats 1000000 in
theorem ref_Ones_any (x0 : BitVec 64) (w : World) :
    Calls Try.prog 95 #[.int .u64 (tn x0)] w fun e w' => e = .returned (.int .u64 (tn (onesV x0))) ∧ Below w.heap.size w w' := by
  have hl := lenV_le x0
  go_enter Try.func95, Try.ntmps95
  go_wp2
  go_loop [3] (fun n => ∃ k : Nat, k ≤ lenV x0 ∧ n = .int .u64 (onesN k)) (fun n => (18446744073709551616 - intOf n).toNat)
  case atStart => exact ⟨0, Nat.zero_le _, rfl⟩
  case round =>
    obtain ⟨k, hk, rfl⟩ := hrel
    have HT := onesN_lt x0 k
    by_cases hlt : k < lenV x0
    · have hd : decide (onesN k < tn x0) = true := by rw [HT]; simpa using hlt
      have HN := hid (onesN_next k (by omega))
      have hb := onesN_bd k (by omega)
      have hb' := onesN_bd (k + 1) (by omega)
      have h2 : onesN (k + 1) = 2 * onesN k + 1 := by unfold onesN; rw [Int.pow_succ]; omega
      have H2 := hid h2
      clear HT h2
      go_wp2
      go_round
      case rel => exact ⟨k + 1, by omega, by first | exact congrArg _ HN.out | (rw [H2.out])⟩
      case measure =>
        have e2 := H2.out
        have e3 := HN.out
        simp only [intOf]
        rw [e3]
        omega
    · have hd : decide (onesN k < tn x0) = false := by rw [HT]; simpa using hlt
      have e : k = lenV x0 := by omega
      subst e
      clear HT
      go_wp2
      go_ret
      exact ⟨by rw [tn_onesV]; rfl, Below.refl _ _⟩
theorem ti_bd (x : BitVec 64) : -9223372036854775808 ≤ ti x ∧ ti x ≤ 9223372036854775807 := by
  have h0 := BitVec.le_toInt x
  have h1 := BitVec.toInt_lt (x := x)
  unfold ti
  omega
theorem by_num (x : BitVec 64) : ((ti x).tmod 64 + 64).tmod 64 = ((x % 64#64).toNat : Int) := by
  have h : ((x % 64#64).toNat : Int) = (x.toNat : Int) % 64 := by rw [BitVec.toNat_umod]; rfl
  have t1 : ∀ a : Int, (a.tmod 64 + 64).tmod 64 = a % 64 := by
    intro a
    have t0 : -64 < a.tmod 64 ∧ (a.tmod 64) % 64 = a % 64 := by
      by_cases h0 : 0 ≤ a
      · rw [Int.tmod_eq_emod_of_nonneg h0]; omega
      · have e : a.tmod 64 = -((-a) % 64) := by
          rw [show a = -(-a) by omega, Int.neg_tmod, Int.tmod_eq_emod_of_nonneg (by omega)]; omega
        rw [e]; omega
    rw [Int.tmod_eq_emod_of_nonneg (by omega)]; omega
  rw [t1]
  have e : (ti x) % 64 = (x.toNat : Int) % 64 := by
    unfold ti
    rw [BitVec.toInt_eq_toNat_cond]
    split <;> omega
  rw [h]
  omega
set_option maxHeartbeats 1000000 in
theorem ref_by_any (x0 : BitVec 64) (w : World) :
    Calls Try.prog 97 #[.int .i64 (ti x0)] w fun e w' => e = .returned (.tuple #[.int .i64 (ti (x0 % 64#64)), .int .u64 (tn (1#64 <<< (x0 % 64#64).toNat))]) ∧ Below w.heap.size w w' := by
  have hb := ti_bd x0
  have HN := by_num x0
  have hK : (x0 % 64#64).toNat < 64 := by rw [BitVec.toNat_umod]; exact Nat.mod_lt _ (by decide)
  have HT : ti (x0 % 64#64) = ((x0 % 64#64).toNat : Int) := by
    unfold ti
    rw [BitVec.toInt_eq_toNat_cond]
    split <;> omega
  rw [HT]
  generalize (x0 % 64#64).toNat = K at *
  have HN2 : (wrap64 ((ti x0).tmod 64 + 64)).tmod 64 = (K : Int) := by
    have : -64 < (ti x0).tmod 64 ∧ (ti x0).tmod 64 < 64 := ⟨Int.lt_tmod_of_pos _ (by decide), Int.tmod_lt_of_pos _ (by decide)⟩
    rw [show wrap64 ((ti x0).tmod 64 + 64) = (ti x0).tmod 64 + 64 by unfold wrap64; omega]
    exact HN
  clear HN HT
  go_enter Try.func97, Try.ntmps97
  go_wp2
  go_loop [4, 5] (fun p i => ∃ k : Nat, k ≤ K ∧ i = .int .i64 k ∧ p = .int .u64 (tn (1#64 <<< k))) (fun _ i => 64 - (intOf i).toNat)
  case atStart => exact ⟨0, Nat.zero_le _, rfl, rfl⟩
  case round =>
    obtain ⟨k, hk, rfl, rfl⟩ := hrel
    have e : IntKind.u64.wrap (2 * tn (1#64 <<< k)) = tn (1#64 <<< (k + 1)) := by
      have h := mulUT 2#64 (1#64 <<< k)
      rw [show tn 2#64 = 2 from rfl] at h
      rw [h, show 2#64 * (1#64 <<< k) = 1#64 <<< (k + 1) by rw [BitVec.shiftLeft_add, BitVec.mul_comm]; exact (BitVec.shiftLeft_eq_mul_twoPow _ 1).symm]
    have E := hid e
    clear e
    by_cases hlt : k < K
    · go_wp2
      go_round
      case rel => exact ⟨k + 1, by omega, by go_num, by rw [E.out]⟩
      case measure => simp [intOf]; omega
    · have : k = K := by omega
      subst this
      go_wp2
      go_ret2
      exact ⟨rfl, Below.refl _ _⟩
theorem sar_next (x : BitVec 64) (k : Nat) : ti (BitVec.sshiftRight x (k + 1)) = ti (BitVec.sshiftRight x k) / 2 := by
  unfold ti
  rw [BitVec.toInt_sshiftRight, BitVec.toInt_sshiftRight, Int.shiftRight_add]
  exact Int.shiftRight_eq_div_pow _ 1
theorem half_odd (v : Int) (h : (v.tmod 2 != 0) = true) (hb : -9223372036854775808 ≤ v ∧ v ≤ 9223372036854775807) : wrap64 ((wrap64 (v - 1)).tdiv 2) = v / 2 := by
  have h1 : v % 2 = 1 := by
    rcases Int.emod_two_eq v with h0 | h0
    · have : v.tmod 2 = 0 := Int.tmod_eq_zero_of_dvd (Int.dvd_of_emod_eq_zero h0)
      rw [this] at h
      cases h
    · exact h0
  have h2 : wrap64 (v - 1) = v - 1 := by unfold wrap64; omega
  have h3 : (v - 1).tdiv 2 = v / 2 := by
    rw [Int.tdiv_eq_ediv_of_dvd (by omega)]; omega
  rw [h2, h3]
  unfold wrap64
  omega
theorem half_even (v : Int) (h : (v.tmod 2 != 0) = false) : v.tdiv 2 = v / 2 := by
  have h1 : v.tmod 2 = 0 := by simpa using h
  exact Int.tdiv_eq_ediv_of_dvd (Int.dvd_of_tmod_eq_zero h1)
theorem val_i64 {a b : Int} (h : a = b) : Value.int .i64 a = Value.int .i64 b := by rw [h]
set_option maxHeartbeats 1000000 in
theorem ref_halved_any (x0 : BitVec 64) (n : Nat) (hn : n < 64) (w : World) :
    Calls Try.prog 111 #[.int .i64 (ti x0), .int .i64 (n : Int)] w fun e w' => e = .returned (.int .i64 (ti (BitVec.sshiftRight x0 n))) ∧ Below w.heap.size w w' := by
  have hb := ti_bd x0
  go_enter Try.func111, Try.ntmps111
  go_wp2
  go_loop [0, 5] (fun v i => ∃ k : Nat, k ≤ n ∧ i = .int .i64 k ∧ v = .int .i64 (ti (BitVec.sshiftRight x0 k))) (fun _ i => n - (intOf i).toNat)
  case atStart => exact ⟨0, Nat.zero_le _, rfl, by simp⟩
  case round =>
    obtain ⟨k, hk, rfl, rfl⟩ := hrel
    have hb := ti_bd (BitVec.sshiftRight x0 k)
    have HS := hid (sar_next x0 k)
    by_cases hlt : k < n
    · go_wp2
      · go_round
        case rel =>
          rename_i t1 t2
          exact ⟨k + 1, by omega, by go_num, val_i64 ((half_odd _ t2 hb).trans HS.out.symm)⟩
        case measure => simp [intOf]; omega
      · go_round
        case rel =>
          rename_i t1 t2
          exact ⟨k + 1, by omega, by go_num, val_i64 ((half_even _ t2).trans HS.out.symm)⟩
        case measure => simp [intOf]; omega
    · have : k = n := by omega
      subst this
      go_wp2
      go_ret
      exact ⟨rfl, Below.refl _ _⟩
theorem ti_small (y : BitVec 64) (h : y.toNat < 64) : ti y = (y.toNat : Int) := by
  unfold ti
  rw [BitVec.toInt_eq_toNat_cond]
  split <;> omega
theorem ref_halved_is (x0 y : BitVec 64) (h : y.toNat < 64) (w : World) :
    Calls Try.prog 111 #[.int .i64 (ti x0), .int .i64 (ti y)] w fun e w' => e = .returned (.int .i64 (ti (BitVec.sshiftRight x0 y.toNat))) ∧ Below w.heap.size w w' := by
  rw [ti_small y h]
  exact ref_halved_any x0 y.toNat h w
theorem mod64_lt (x : BitVec 64) : (x % 64#64).toNat < 64 := by rw [BitVec.toNat_umod]; exact Nat.mod_lt _ (by decide)
theorem lenV_shr (x y : BitVec 64) (k : Nat) : (tn (x >>> k) != tn (y >>> k)) = decide (k < lenV (x ^^^ y)) := by
  have h := lt_lenV (x ^^^ y) k
  rw [neUT, Bool.eq_iff_iff, bne_iff_ne, decide_eq_true_iff, ← h]
  constructor
  · intro hne
    rcases Nat.lt_or_ge (x ^^^ y).toNat (2 ^ k) with hl | hl
    · exfalso
      apply hne
      have e : (x ^^^ y) >>> k = 0#64 := by
        apply BitVec.eq_of_toNat_eq
        rw [BitVec.toNat_ushiftRight, Nat.shiftRight_eq_div_pow, Nat.div_eq_of_lt hl]; rfl
      rw [BitVec.ushiftRight_xor_distrib] at e
      exact BitVec.xor_eq_zero_iff.1 e
    · exact hl
  · intro hl e
    have e2 : (x ^^^ y) >>> k = 0#64 := by rw [BitVec.ushiftRight_xor_distrib, e, BitVec.xor_self]
    have e3 : ((x ^^^ y) >>> k).toNat = 0 := by rw [e2]; rfl
    rw [BitVec.toNat_ushiftRight, Nat.shiftRight_eq_div_pow] at e3
    have := Nat.div_pos hl (Nat.two_pow_pos k)
    omega
theorem shr_next (x : BitVec 64) (k : Nat) : tn (x >>> k) / 2 = tn (x >>> (k + 1)) := by
  have h := shr64 (tn (x >>> k)) 1 (tn_lo _) (tn_hi64 _)
  rw [b64_tn] at h
  rw [BitVec.shiftRight_add, ← h]
  rfl
theorem shl_next (x : BitVec 64) (k : Nat) : IntKind.u64.wrap (2 * tn (x <<< k)) = tn (x <<< (k + 1)) := by
  have h := mulUT 2#64 (x <<< k)
  rw [show tn 2#64 = 2 from rfl] at h
  rw [h, show 2#64 * (x <<< k) = x <<< (k + 1) by rw [BitVec.shiftLeft_add, BitVec.mul_comm]; exact (BitVec.shiftLeft_eq_mul_twoPow _ 1).symm]
theorem val_agg2 {a b c d : Int} (h : a = c) (k : b = d) : Value.agg #[.int .u64 a, .int .u64 b] = .agg #[.int .u64 c, .int .u64 d] := by rw [h, k]
def bitsV (a : P) : P := ⟨(a.lo >>> lenV (a.lo ^^^ a.hi)) <<< lenV (a.lo ^^^ a.hi), (1#64 <<< lenV (a.lo ^^^ a.hi)) - 1#64⟩
set_option maxHeartbeats 2000000 in
theorem ref_Bits_any (x0 : P) (w : World) :
    Calls Try.prog 71 #[.agg #[.int .u64 (tn x0.lo), .int .u64 (tn x0.hi)]] w fun e w' => e = .returned (.agg #[.int .u64 (tn (bitsV x0).lo), .int .u64 (tn (bitsV x0).hi)]) ∧ Below w.heap.size w w' := by
  have hl := lenV_le (x0.lo ^^^ x0.hi)
  have HD := hid (lenV_shr x0.lo x0.hi)
  have HV : Hid (bitsV x0 = ⟨(x0.lo >>> lenV (x0.lo ^^^ x0.hi)) <<< lenV (x0.lo ^^^ x0.hi), (1#64 <<< lenV (x0.lo ^^^ x0.hi)) - 1#64⟩) := hid rfl
  generalize lenV (x0.lo ^^^ x0.hi) = n at *
  go_enter Try.func71, Try.ntmps71
  go_wp2
  go_loop [3, 4, 6] (fun l h i => ∃ k : Nat, k ≤ n ∧ i = .int .i64 k ∧ l = .int .u64 (tn (x0.lo >>> k)) ∧ h = .int .u64 (tn (x0.hi >>> k))) (fun _ _ i => n - (intOf i).toNat)
  case atStart => exact ⟨0, Nat.zero_le _, rfl, by simp, by simp⟩
  case round =>
    obtain ⟨k, hk, rfl, rfl, rfl⟩ := hrel
    have hd := HD.out k
    have b1 := tn_lo (x0.lo >>> k)
    have b2 := tn_hi64 (x0.lo >>> k)
    have b3 := tn_lo (x0.hi >>> k)
    have b4 := tn_hi64 (x0.hi >>> k)
    have e1 := hid (shr_next x0.lo k)
    have e2 := hid (shr_next x0.hi k)
    by_cases hlt : k < n
    · rw [show decide (k < n) = true by simpa using hlt] at hd
      go_wp2
      go_round
      case rel => exact ⟨k + 1, by omega, by go_num, val_u64 e1.out, val_u64 e2.out⟩
      case measure => simp [intOf]; omega
    · have : k = n := by omega
      subst this
      rw [show decide (k < k) = false by simp] at hd
      go_wp2
      clear hd e1 e2 b1 b2 b3 b4
      go_loop [3, 5, 7] (fun l p i => ∃ j : Nat, j ≤ k ∧ i = .int .i64 j ∧ l = .int .u64 (tn ((x0.lo >>> k) <<< j)) ∧ p = .int .u64 (tn (1#64 <<< j))) (fun _ _ i => k - (intOf i).toNat)
      case atStart => exact ⟨0, Nat.zero_le _, rfl, by simp, rfl⟩
      case round =>
        obtain ⟨j, hj, rfl, rfl, rfl⟩ := hrel
        have e1 := hid (shl_next (x0.lo >>> k) j)
        have e2 := hid (shl_next 1#64 j)
        by_cases hlt : j < k
        · go_wp2
          go_round
          case rel => exact ⟨j + 1, by omega, by go_num, val_u64 e1.out, val_u64 e2.out⟩
          case measure => simp [intOf]; omega
        · have : j = k := by omega
          subst this
          go_wp2
          have hs := subUT (1#64 <<< j) 1#64
          rw [show tn 1#64 = 1 from rfl] at hs
          exact bodyPost_ret (v := .agg #[.int .u64 (tn ((x0.lo >>> j) <<< j)), .int .u64 (IntKind.u64.wrap (tn (1#64 <<< j) - 1))]) (by simp [results, Try.results71, go_sem]) rfl ⟨by rw [HV.out, hs], ((Below.refl _ _).alloc (Nat.le_refl _) _).alloc (by simp) _⟩
end Go.Proofs.Ytoojdndfjfmemaa.Sp
