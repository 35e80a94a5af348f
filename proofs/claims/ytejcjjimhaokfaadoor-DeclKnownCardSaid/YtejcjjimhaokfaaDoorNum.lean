/-
  Plain facts on numbers of 64 and 32 bits, of which the walks of the word laws are told: what an operation makes ('aluV'), what a comparison says ('jmpV'). No program is looked at here.
-/
import Derived.WalkKit
namespace Go.Proofs.YtejcjjimhaokfaaDoor.Num
open Go.RowKit
/-! ### Numbers as integers, and as so many bits -/
theorem hid {p : Prop} (h : p) : Hid p := h
def tn {n : Nat} (x : BitVec n) : Int := (x.toNat : Int)
def b64 (a : Int) : BitVec 64 := BitVec.ofInt 64 a
def b32 (a : Int) : BitVec 32 := BitVec.ofInt 32 a
theorem tn_lo {n : Nat} (x : BitVec n) : 0 ≤ tn x := by unfold tn; omega
theorem tn_hi64 (x : BitVec 64) : tn x ≤ 18446744073709551615 := by have := x.isLt; unfold tn; omega
theorem tn_hi32 (x : BitVec 32) : tn x ≤ 4294967295 := by have := x.isLt; unfold tn; omega
theorem tn_inj {n : Nat} {x y : BitVec n} (h : tn x = tn y) : x = y := by
  unfold tn at h; exact BitVec.eq_of_toNat_eq (by omega)
theorem toNat64 (a : Int) (h0 : 0 ≤ a) (h1 : a ≤ 18446744073709551615) : ((b64 a).toNat : Int) = a := by
  unfold b64; rw [BitVec.toNat_ofInt]; omega
theorem toNat32 (a : Int) (h0 : 0 ≤ a) (h1 : a ≤ 4294967295) : ((b32 a).toNat : Int) = a := by
  unfold b32; rw [BitVec.toNat_ofInt]; omega
theorem tn_b64 (a : Int) (h0 : 0 ≤ a) (h1 : a ≤ 18446744073709551615) : tn (b64 a) = a := toNat64 a h0 h1
theorem tn_b32 (a : Int) (h0 : 0 ≤ a) (h1 : a ≤ 4294967295) : tn (b32 a) = a := toNat32 a h0 h1
theorem b64_tn (x : BitVec 64) : b64 (tn x) = x := tn_inj (tn_b64 _ (tn_lo x) (tn_hi64 x))
theorem b32_tn (x : BitVec 32) : b32 (tn x) = x := tn_inj (tn_b32 _ (tn_lo x) (tn_hi32 x))
theorem b32_mod (a : Int) : b32 (a % 4294967296) = b32 a := by
  apply BitVec.eq_of_toNat_eq; unfold b32; rw [BitVec.toNat_ofInt, BitVec.toNat_ofInt]; omega
/-! ### What the walk writes, and the operation of so many bits that it is -/
theorem add64 (a b : Int) : IntKind.u64.wrap (a + b) = tn (b64 a + b64 b) := by
  rw [IntKind.wrap_u64]; unfold tn b64; rw [BitVec.toNat_add, BitVec.toNat_ofInt, BitVec.toNat_ofInt]; omega
theorem sub64 (a b : Int) : IntKind.u64.wrap (a - b) = tn (b64 a - b64 b) := by
  rw [IntKind.wrap_u64]; unfold tn b64; rw [BitVec.toNat_sub, BitVec.toNat_ofInt, BitVec.toNat_ofInt]; omega
theorem neg64 (a : Int) : IntKind.u64.wrap (-a) = tn (- b64 a) := by
  rw [IntKind.wrap_u64]; unfold tn b64; rw [BitVec.toNat_neg, BitVec.toNat_ofInt]; omega
theorem mul64 (a b : Int) : IntKind.u64.wrap (a * b) = tn (b64 a * b64 b) := by
  rw [IntKind.wrap_u64]; unfold tn b64; rw [← BitVec.ofInt_mul, BitVec.toNat_ofInt]; omega
theorem add32 (a b : Int) : (a + b) % 4294967296 = tn (b32 a + b32 b) := by
  unfold tn b32; rw [BitVec.toNat_add, BitVec.toNat_ofInt, BitVec.toNat_ofInt]; omega
theorem sub32 (a b : Int) : (a - b) % 4294967296 = tn (b32 a - b32 b) := by
  unfold tn b32; rw [BitVec.toNat_sub, BitVec.toNat_ofInt, BitVec.toNat_ofInt]; omega
theorem neg32 (a : Int) : -a % 4294967296 = tn (- b32 a) := by
  unfold tn b32; rw [BitVec.toNat_neg, BitVec.toNat_ofInt]; omega
theorem mul32 (a b : Int) : (a * b) % 4294967296 = tn (b32 a * b32 b) := by
  unfold tn b32; rw [← BitVec.ofInt_mul, BitVec.toNat_ofInt]; omega
theorem div64 (a b : Int) (h0 : 0 ≤ a) (h1 : a ≤ 18446744073709551615) (k0 : 0 ≤ b) (k1 : b ≤ 18446744073709551615) : a / b = tn (b64 a / b64 b) := by
  unfold tn; rw [BitVec.toNat_udiv, Int.natCast_ediv, toNat64 a h0 h1, toNat64 b k0 k1]
theorem mod64 (a b : Int) (h0 : 0 ≤ a) (h1 : a ≤ 18446744073709551615) (k0 : 0 ≤ b) (k1 : b ≤ 18446744073709551615) : a % b = tn (b64 a % b64 b) := by
  unfold tn; rw [BitVec.toNat_umod, Int.natCast_emod, toNat64 a h0 h1, toNat64 b k0 k1]
theorem div32 (a b : Int) (h0 : 0 ≤ a) (h1 : a ≤ 4294967295) (k0 : 0 ≤ b) (k1 : b ≤ 4294967295) : a / b = tn (b32 a / b32 b) := by
  unfold tn; rw [BitVec.toNat_udiv, Int.natCast_ediv, toNat32 a h0 h1, toNat32 b k0 k1]
theorem mod32 (a b : Int) (h0 : 0 ≤ a) (h1 : a ≤ 4294967295) (k0 : 0 ≤ b) (k1 : b ≤ 4294967295) : a % b = tn (b32 a % b32 b) := by
  unfold tn; rw [BitVec.toNat_umod, Int.natCast_emod, toNat32 a h0 h1, toNat32 b k0 k1]
theorem wrapNat64 (x : BitVec 64) : IntKind.u64.wrap (x.toNat : Int) = tn x := by
  have := x.isLt; rw [IntKind.wrap_u64]; unfold tn; omega
theorem wrapNat32 (x : BitVec 32) : IntKind.u32.wrap (x.toNat : Int) = tn x := by
  have := x.isLt; rw [IntKind.wrap_u32]; unfold tn; omega
theorem or64 (a b : Int) : bits .or .u64 a b = tn (b64 a ||| b64 b) := wrapNat64 _
theorem and64 (a b : Int) : bits .and .u64 a b = tn (b64 a &&& b64 b) := wrapNat64 _
theorem xor64 (a b : Int) : bits .xor .u64 a b = tn (b64 a ^^^ b64 b) := wrapNat64 _
theorem or32 (a b : Int) : bits .or .u32 a b = tn (b32 a ||| b32 b) := wrapNat32 _
theorem and32 (a b : Int) : bits .and .u32 a b = tn (b32 a &&& b32 b) := wrapNat32 _
theorem xor32 (a b : Int) : bits .xor .u32 a b = tn (b32 a ^^^ b32 b) := wrapNat32 _
theorem shl64 (a : Int) (k : Nat) : IntKind.u64.wrap (a * 2 ^ k) = tn (b64 a <<< k) := by
  have e : ((BitVec.ofInt 64 a).toNat : Int) = a % 18446744073709551616 := by rw [BitVec.toNat_ofInt]; omega
  unfold tn b64
  rw [IntKind.wrap_u64, BitVec.toNat_shiftLeft, Nat.shiftLeft_eq, Int.natCast_emod, Int.natCast_mul, e, Int.natCast_pow, Int.mul_emod]
  conv => rhs; rw [Int.mul_emod]
  simp
theorem shl32 (a : Int) (k : Nat) : a * 2 ^ k % 4294967296 = tn (b32 a <<< k) := by
  have e : ((BitVec.ofInt 32 a).toNat : Int) = a % 4294967296 := by rw [BitVec.toNat_ofInt]; omega
  unfold tn b32
  rw [BitVec.toNat_shiftLeft, Nat.shiftLeft_eq, Int.natCast_emod, Int.natCast_mul, e, Int.natCast_pow, Int.mul_emod]
  conv => rhs; rw [Int.mul_emod]
  simp
theorem shr64 (a : Int) (k : Nat) (h0 : 0 ≤ a) (h1 : a ≤ 18446744073709551615) : a / 2 ^ k = tn (b64 a >>> k) := by
  unfold tn; rw [BitVec.toNat_ushiftRight, Nat.shiftRight_eq_div_pow, Int.natCast_ediv, toNat64 a h0 h1]; simp
theorem shr32 (a : Int) (k : Nat) (h0 : 0 ≤ a) (h1 : a ≤ 4294967295) : a / 2 ^ k = tn (b32 a >>> k) := by
  unfold tn; rw [BitVec.toNat_ushiftRight, Nat.shiftRight_eq_div_pow, Int.natCast_ediv, toNat32 a h0 h1]; simp
theorem toInt64 (a : Int) : wrap64 a = (b64 a).toInt := by
  unfold b64; rw [BitVec.toInt_ofInt]; unfold wrap64; simp [Int.bmod]; omega
theorem toInt32 (a : Int) : wrap32 a = (b32 a).toInt := by
  unfold b32; rw [BitVec.toInt_ofInt]; unfold wrap32; simp [Int.bmod]; omega
theorem sar64 (a : Int) (k : Nat) : (b64 a).toInt / 2 ^ k = ((b64 a).sshiftRight k).toInt := by
  rw [BitVec.toInt_sshiftRight, Int.shiftRight_eq_div_pow]; simp
theorem sar32 (a : Int) (k : Nat) : (b32 a).toInt / 2 ^ k = ((b32 a).sshiftRight k).toInt := by
  rw [BitVec.toInt_sshiftRight, Int.shiftRight_eq_div_pow]; simp
theorem back64 (x : BitVec 64) : IntKind.u64.wrap x.toInt = tn x := by
  rw [IntKind.wrap_u64]; unfold tn; rw [BitVec.toInt_eq_toNat_bmod]; have := x.isLt; simp [Int.bmod]; omega
theorem back32 (x : BitVec 32) : x.toInt % 4294967296 = tn x := by
  unfold tn; rw [BitVec.toInt_eq_toNat_bmod]; have := x.isLt; simp [Int.bmod]; omega
/-! ### The operations, and the comparisons -/
def aluV (n : Nat) (op : Int) (x y : BitVec n) : BitVec n :=
  if op = 0 then x + y else if op = 16 then x - y else if op = 32 then x * y
  else if op = 48 then x / y else if op = 64 then x ||| y else if op = 80 then x &&& y
  else if op = 96 then x <<< (y.toNat % n) else if op = 112 then x >>> (y.toNat % n)
  else if op = 128 then -x else if op = 144 then x % y else if op = 160 then x ^^^ y
  else if op = 176 then y else if op = 192 then x.sshiftRight (y.toNat % n) else 0
def aluIs (op : Int) : Bool :=
  op == 0 || op == 16 || op == 32 || op == 48 || op == 64 || op == 80 || op == 96 || op == 112 || op == 128 || op == 144 || op == 160 || op == 176 || op == 192
def jmpV (n : Nat) (op : Int) (x y : BitVec n) : Bool :=
  if op = 16 then decide (x = y) else if op = 32 then decide (y.toNat < x.toNat) else if op = 48 then decide (y.toNat ≤ x.toNat)
  else if op = 64 then decide (x &&& y ≠ 0) else if op = 80 then decide (x ≠ y)
  else if op = 96 then decide (y.toInt < x.toInt) else if op = 112 then decide (y.toInt ≤ x.toInt)
  else if op = 160 then decide (x.toNat < y.toNat) else if op = 176 then decide (x.toNat ≤ y.toNat)
  else if op = 192 then decide (x.toInt < y.toInt) else if op = 208 then decide (x.toInt ≤ y.toInt) else false
def jmpIs (op : Int) : Bool :=
  op == 16 || op == 32 || op == 48 || op == 64 || op == 80 || op == 96 || op == 112 || op == 160 || op == 176 || op == 192 || op == 208
/-- What Alu makes. -/
def aluA (op : Int) (wide : Bool) (a b : Int) : Int := if wide then tn (aluV 64 op (b64 a) (b64 b)) else tn (aluV 32 op (b32 a) (b32 b))
/-- What Jump says. -/
def jmpA (op : Int) (wide : Bool) (a b : Int) : Bool := if wide then jmpV 64 op (b64 a) (b64 b) else jmpV 32 op (b32 a) (b32 b)
theorem aluA_lo (op : Int) (wide : Bool) (a b : Int) : 0 ≤ aluA op wide a b := by unfold aluA; split <;> exact tn_lo _
theorem aluA_hi (op : Int) (wide : Bool) (a b : Int) : aluA op wide a b ≤ 18446744073709551615 := by
  unfold aluA; split
  · exact tn_hi64 _
  · have := tn_hi32 (aluV 32 op (b32 a) (b32 b)); omega
/-! ### A ring -/
theorem or_and_add (x y : Nat) : (x ||| y) + (x &&& y) = x + y := by
  induction x using Nat.strongRecOn generalizing y with
  | ind x ih =>
    by_cases h : x = 0
    · subst h; simp
    · have h1 := ih (x / 2) (by omega) (y / 2)
      have e1 : (x ||| y) / 2 = x / 2 ||| y / 2 := Nat.or_div_two
      have e2 : (x &&& y) / 2 = x / 2 &&& y / 2 := Nat.and_div_two
      have e3 : ((x ||| y) % 2 + (x &&& y) % 2) = x % 2 + y % 2 := by
        have a1 := @Nat.or_mod_two_eq_one x y
        have a2 := @Nat.and_mod_two_eq_one x y
        have b1 := Nat.mod_two_eq_zero_or_one (x ||| y)
        have b2 := Nat.mod_two_eq_zero_or_one (x &&& y)
        rcases Nat.mod_two_eq_zero_or_one x with hx | hx <;> rcases Nat.mod_two_eq_zero_or_one y with hy | hy <;> clear e1 e2 h1 ih <;> omega
      rw [← e1, ← e2] at h1
      omega
theorem or_and_addB {n : Nat} (x y : BitVec n) : (x ||| y) + (x &&& y) = x + y := by
  apply BitVec.eq_of_toNat_eq
  rw [BitVec.toNat_add, BitVec.toNat_add, BitVec.toNat_or, BitVec.toNat_and, or_and_add]
theorem div_mod {n : Nat} (x y : BitVec n) : (x / y) * y + x % y = x := by
  apply BitVec.eq_of_toNat_eq
  have h := Nat.div_add_mod' x.toNat y.toNat
  have hx := x.isLt
  rw [BitVec.toNat_add, BitVec.toNat_mul, BitVec.toNat_udiv, BitVec.toNat_umod]
  rw [Nat.mod_eq_of_lt (a := x.toNat / y.toNat * y.toNat) (by omega), h, Nat.mod_eq_of_lt hx]
theorem shl_mul {n : Nat} (x : BitVec n) (k : Nat) : x <<< k = x * (BitVec.ofNat n 1 <<< k) := by
  rw [← BitVec.twoPow_eq, BitVec.shiftLeft_eq_mul_twoPow]
theorem shr_div {n : Nat} (x : BitVec n) (k : Nat) (h : k < n) : x >>> k = x / (BitVec.ofNat n 1 <<< k) := by
  rw [← BitVec.twoPow_eq, BitVec.udiv_twoPow_eq_of_lt h]
/-! ### Numbers that are put together bit by bit -/
theorem bitEq (a i : Int) (h0 : 0 ≤ a) : ((a / 2 ^ i.toNat).tmod 2 == 1) = a.toNat.testBit i.toNat := by
  obtain ⟨m, rfl⟩ := Int.eq_ofNat_of_zero_le h0
  generalize i.toNat = k
  have e : ((m : Int) / 2 ^ k).tmod 2 = ((m / 2 ^ k % 2 : Nat) : Int) := by
    rw [show ((2 : Int) ^ k) = ((2 ^ k : Nat) : Int) by simp, ← Int.natCast_ediv]; rfl
  rw [e, Int.toNat_natCast, Nat.testBit_eq_decide_div_mod_eq, Bool.eq_iff_iff]
  simp only [beq_iff_eq, decide_eq_true_eq]
  omega
def gather (P : Nat → Bool) (pos : Nat → Nat) : Nat → Nat
  | 0 => 0
  | k + 1 => gather P pos k + (if P k then 2 ^ pos k else 0)
theorem add_or (x p : Nat) (h : x.testBit p = false) : x + 2 ^ p = x ||| 2 ^ p := by
  have e := or_and_add x (2 ^ p)
  have z : x &&& 2 ^ p = 0 := by
    apply Nat.eq_of_testBit_eq; intro j
    rw [Nat.testBit_and, Nat.testBit_two_pow]
    by_cases hj : p = j
    · subst hj; simp [h]
    · simp [hj]
  omega
theorem gather_bits (P : Nat → Bool) (pos : Nat → Nat) (n : Nat) (inj : ∀ i j, i < n → j < n → pos i = pos j → i = j) :
    ∀ k, k ≤ n → ∀ j, (gather P pos k).testBit j = true ↔ ∃ i, i < k ∧ pos i = j ∧ P i = true := by
  intro k
  induction k with
  | zero => intro _ j; simp [gather]
  | succ k ih =>
    intro hk j
    have ih' := ih (by omega)
    have free : (gather P pos k).testBit (pos k) = false := by
      rw [Bool.eq_false_iff]; intro h
      obtain ⟨i, hi, hp, _⟩ := (ih' (pos k)).1 h
      have := inj i k (by omega) (by omega) hp; omega
    by_cases hP : P k = true
    · simp only [gather, hP, if_true]
      rw [add_or _ _ free, Nat.testBit_or, Nat.testBit_two_pow, Bool.or_eq_true, ih' j]
      constructor
      · rintro (⟨i, hi, h⟩ | h)
        · exact ⟨i, by omega, h⟩
        · exact ⟨k, by omega, by simpa using h, hP⟩
      · rintro ⟨i, hi, h, h'⟩
        by_cases hik : i = k
        · subst hik; right; simpa using h
        · left; exact ⟨i, by omega, h, h'⟩
    · have hP' : P k = false := by simpa using hP
      simp only [gather, hP']
      rw [show gather P pos k + (if false = true then 2 ^ pos k else 0) = gather P pos k by simp, ih' j]
      constructor
      · rintro ⟨i, hi, h⟩; exact ⟨i, by omega, h⟩
      · rintro ⟨i, hi, h, h'⟩
        by_cases hik : i = k
        · subst hik; exact absurd h' hP
        · exact ⟨i, by omega, h, h'⟩
/-- Positions in their order: bit j is P j. -/
theorem gather_id (P : Nat → Bool) (n j : Nat) : (gather P id n).testBit j = (decide (j < n) && P j) := by
  rw [Bool.eq_iff_iff, gather_bits P id n (fun i j _ _ h => h) n (Nat.le_refl n) j, Bool.and_eq_true, decide_eq_true_eq]
  constructor
  · rintro ⟨i, hi, h, h'⟩; subst h; exact ⟨hi, h'⟩
  · rintro ⟨h, h'⟩; exact ⟨j, h, rfl, h'⟩
theorem gather_lt (P : Nat → Bool) (pos : Nat → Nat) (n : Nat) (inj : ∀ i j, i < n → j < n → pos i = pos j → i = j) (m k : Nat) (hk : k ≤ n) (hp : ∀ i, i < n → pos i < m) :
    gather P pos k < 2 ^ m := by
  apply Nat.lt_pow_two_of_testBit
  intro j hj
  rw [Bool.eq_false_iff]; intro h
  obtain ⟨i, hi, h, _⟩ := (gather_bits P pos n inj k hk j).1 h
  have := hp i (by omega); omega
theorem gather_id_lt (P : Nat → Bool) (n : Nat) : gather P id n < 2 ^ n :=
  gather_lt P id n (fun _ _ _ _ h => h) n n (Nat.le_refl n) (fun _ h => h)
theorem gather_is (P : Nat → Bool) (n v : Nat) (hv : v < 2 ^ n) (h : ∀ j, j < n → P j = v.testBit j) : gather P id n = v := by
  apply Nat.eq_of_testBit_eq; intro j
  rw [gather_id]
  by_cases hj : j < n
  · simp [hj, h j hj]
  · have : v.testBit j = false := Nat.testBit_lt_two_pow (Nat.lt_of_lt_of_le hv (Nat.pow_le_pow_right (by omega) (by omega)))
    simp [hj, this]
theorem gather_yes (P : Nat → Bool) (pos : Nat → Nat) (k : Nat) (hP : P k = true) (hb : gather P pos (k + 1) < 18446744073709551616) :
    IntKind.u64.wrap ((gather P pos k : Nat) + IntKind.u64.wrap (2 ^ pos k)) = (gather P pos (k + 1) : Nat) := by
  have e : gather P pos (k + 1) = gather P pos k + 2 ^ pos k := by simp [gather, hP]
  rw [e] at hb
  rw [e, show ((2 : Int) ^ pos k) = ((2 ^ pos k : Nat) : Int) by simp, IntKind.wrap_u64, IntKind.wrap_u64]
  omega
theorem gather_no (P : Nat → Bool) (pos : Nat → Nat) (k : Nat) (hP : P k = false) : gather P pos (k + 1) = gather P pos k := by
  simp [gather, hP]
theorem gather_id_lt64 (P : Nat → Bool) (k : Nat) (h : k ≤ 64) : gather P id k < 18446744073709551616 :=
  Nat.lt_of_lt_of_le (gather_id_lt P k) (Nat.le_trans (Nat.pow_le_pow_right (by omega) h) (Nat.le_of_eq rfl))
theorem val_u64 {a b : Int} (h : a = b) : Value.int .u64 a = Value.int .u64 b := by rw [h]
/-! ### What 'whole' makes, and that its lowest bits are what Alu makes -/
def wholeV (op a b : Int) : Int :=
  if op = 0 then (a + b) % 18446744073709551616 else if op = 16 then (a - b) % 18446744073709551616 else if op = 32 then (a * b) % 18446744073709551616
  else if op = 48 then a / b else if op = 144 then a % b else if op = 128 then -a % 18446744073709551616 else if op = 176 then b else 0
def wholeIs (op : Int) : Bool := op == 0 || op == 16 || op == 32 || op == 48 || op == 144 || op == 128 || op == 176
theorem wholeV_bd (op a b : Int) (a0 : 0 ≤ a) (a1 : a ≤ 18446744073709551615) (b0 : 0 ≤ b) (b1 : b ≤ 18446744073709551615) : 0 ≤ wholeV op a b ∧ wholeV op a b ≤ 18446744073709551615 := by
  have d0 : 0 ≤ a / b := Int.ediv_nonneg a0 b0
  have d1 : a / b ≤ a := Int.ediv_le_self _ a0
  have m : 0 ≤ a % b ∧ a % b ≤ 18446744073709551615 := by
    rw [mod64 a b a0 a1 b0 b1]; exact ⟨tn_lo _, tn_hi64 _⟩
  unfold wholeV
  repeat' split
  all_goals omega
theorem whole_64 (op a b : Int) (a0 : 0 ≤ a) (a1 : a ≤ 18446744073709551615) (b0 : 0 ≤ b) (b1 : b ≤ 18446744073709551615)
    (n4 : op ≠ 64) (n5 : op ≠ 80) (n6 : op ≠ 96) (n7 : op ≠ 112) (n10 : op ≠ 160) (n12 : op ≠ 192) : wholeV op a b = tn (aluV 64 op (b64 a) (b64 b)) := by
  unfold wholeV aluV
  rw [if_neg n4, if_neg n5, if_neg n6, if_neg n7, if_neg n10, if_neg n12]
  by_cases h : op = 0
  · rw [if_pos h, if_pos h, ← add64, IntKind.wrap_u64]
  rw [if_neg h, if_neg h]; clear h
  by_cases h : op = 16
  · rw [if_pos h, if_pos h, ← sub64, IntKind.wrap_u64]
  rw [if_neg h, if_neg h]; clear h
  by_cases h : op = 32
  · rw [if_pos h, if_pos h, ← mul64, IntKind.wrap_u64]
  rw [if_neg h, if_neg h]; clear h
  by_cases h : op = 48
  · rw [if_pos h, if_pos h, div64 a b a0 a1 b0 b1]
  rw [if_neg h, if_neg h]; clear h
  by_cases h : op = 128
  · subst h; rw [if_neg (by decide), if_pos rfl, if_pos rfl, ← neg64, IntKind.wrap_u64]
  rw [if_neg h, if_neg h]; clear h
  by_cases h : op = 144
  · rw [if_pos h, if_pos h, mod64 a b a0 a1 b0 b1]
  rw [if_neg h, if_neg h]; clear h
  by_cases h : op = 176
  · rw [if_pos h, if_pos h, tn_b64 b b0 b1]
  rw [if_neg h, if_neg h]; rfl
theorem whole_32 (op a b : Int)
    (n4 : op ≠ 64) (n5 : op ≠ 80) (n6 : op ≠ 96) (n7 : op ≠ 112) (n10 : op ≠ 160) (n12 : op ≠ 192) : wholeV op (a % 4294967296) (b % 4294967296) % 4294967296 = tn (aluV 32 op (b32 a) (b32 b)) := by
  have A0 : 0 ≤ a % 4294967296 := by omega
  have A1 : a % 4294967296 ≤ 4294967295 := by omega
  have B0 : 0 ≤ b % 4294967296 := by omega
  have B1 : b % 4294967296 ≤ 4294967295 := by omega
  unfold wholeV aluV
  rw [if_neg n4, if_neg n5, if_neg n6, if_neg n7, if_neg n10, if_neg n12]
  by_cases h : op = 0
  · rw [if_pos h, if_pos h, ← add32]; omega
  rw [if_neg h, if_neg h]; clear h
  by_cases h : op = 16
  · rw [if_pos h, if_pos h, ← sub32]; omega
  rw [if_neg h, if_neg h]; clear h
  by_cases h : op = 32
  · rw [if_pos h, if_pos h, ← mul32, Int.emod_emod_of_dvd _ (by decide), ← Int.mul_emod]
  rw [if_neg h, if_neg h]; clear h
  by_cases h : op = 48
  · rw [if_pos h, if_pos h, ← b32_mod a, ← b32_mod b, ← div32 _ _ A0 A1 B0 B1]
    have d0 : 0 ≤ (a % 4294967296) / (b % 4294967296) := Int.ediv_nonneg A0 B0
    have d1 : (a % 4294967296) / (b % 4294967296) ≤ a % 4294967296 := Int.ediv_le_self _ A0
    exact Int.emod_eq_of_lt d0 (by omega)
  rw [if_neg h, if_neg h]; clear h
  by_cases h : op = 128
  · subst h; rw [if_neg (by decide), if_pos rfl, if_pos rfl, ← neg32]; omega
  rw [if_neg h, if_neg h]; clear h
  by_cases h : op = 144
  · rw [if_pos h, if_pos h, ← b32_mod a, ← b32_mod b, mod32 _ _ A0 A1 B0 B1]
    exact Int.emod_eq_of_lt (tn_lo _) (by have := tn_hi32 (b32 (a % 4294967296) % b32 (b % 4294967296)); omega)
  rw [if_neg h, if_neg h]; clear h
  by_cases h : op = 176
  · rw [if_pos h, if_pos h, ← b32_mod b, tn_b32 _ B0 B1]; omega
  rw [if_neg h, if_neg h]; rfl
theorem whole_is (op : Int) (n4 : op ≠ 64) (n5 : op ≠ 80) (n6 : op ≠ 96) (n7 : op ≠ 112) (n10 : op ≠ 160) (n12 : op ≠ 192) : wholeIs op = aluIs op := by
  unfold wholeIs aluIs
  rw [Bool.eq_iff_iff]; simp [n4, n5, n6, n7, n10, n12]; omega
theorem or64N (a b : Int) (a0 : 0 ≤ a) (a1 : a ≤ 18446744073709551615) (b0 : 0 ≤ b) (b1 : b ≤ 18446744073709551615) : ((a.toNat ||| b.toNat : Nat) : Int) = tn (b64 a ||| b64 b) := by
  have ha : (b64 a).toNat = a.toNat := by have := toNat64 a a0 a1; omega
  have hb : (b64 b).toNat = b.toNat := by have := toNat64 b b0 b1; omega
  unfold tn; rw [BitVec.toNat_or, ha, hb]
theorem and64N (a b : Int) (a0 : 0 ≤ a) (a1 : a ≤ 18446744073709551615) (b0 : 0 ≤ b) (b1 : b ≤ 18446744073709551615) : ((a.toNat &&& b.toNat : Nat) : Int) = tn (b64 a &&& b64 b) := by
  have ha : (b64 a).toNat = a.toNat := by have := toNat64 a a0 a1; omega
  have hb : (b64 b).toNat = b.toNat := by have := toNat64 b b0 b1; omega
  unfold tn; rw [BitVec.toNat_and, ha, hb]
theorem xor64N (a b : Int) (a0 : 0 ≤ a) (a1 : a ≤ 18446744073709551615) (b0 : 0 ≤ b) (b1 : b ≤ 18446744073709551615) : ((a.toNat ^^^ b.toNat : Nat) : Int) = tn (b64 a ^^^ b64 b) := by
  have ha : (b64 a).toNat = a.toNat := by have := toNat64 a a0 a1; omega
  have hb : (b64 b).toNat = b.toNat := by have := toNat64 b b0 b1; omega
  unfold tn; rw [BitVec.toNat_xor, ha, hb]
theorem or32N (a b : Int) : (((a % 4294967296).toNat ||| (b % 4294967296).toNat : Nat) : Int) = tn (b32 a ||| b32 b) := by
  have ha : (b32 (a % 4294967296)).toNat = (a % 4294967296).toNat := by have := toNat32 (a % 4294967296) (by omega) (by omega); omega
  have hb : (b32 (b % 4294967296)).toNat = (b % 4294967296).toNat := by have := toNat32 (b % 4294967296) (by omega) (by omega); omega
  rw [b32_mod] at ha hb; unfold tn; rw [BitVec.toNat_or, ha, hb]
theorem and32N (a b : Int) : (((a % 4294967296).toNat &&& (b % 4294967296).toNat : Nat) : Int) = tn (b32 a &&& b32 b) := by
  have ha : (b32 (a % 4294967296)).toNat = (a % 4294967296).toNat := by have := toNat32 (a % 4294967296) (by omega) (by omega); omega
  have hb : (b32 (b % 4294967296)).toNat = (b % 4294967296).toNat := by have := toNat32 (b % 4294967296) (by omega) (by omega); omega
  rw [b32_mod] at ha hb; unfold tn; rw [BitVec.toNat_and, ha, hb]
theorem xor32N (a b : Int) : (((a % 4294967296).toNat ^^^ (b % 4294967296).toNat : Nat) : Int) = tn (b32 a ^^^ b32 b) := by
  have ha : (b32 (a % 4294967296)).toNat = (a % 4294967296).toNat := by have := toNat32 (a % 4294967296) (by omega) (by omega); omega
  have hb : (b32 (b % 4294967296)).toNat = (b % 4294967296).toNat := by have := toNat32 (b % 4294967296) (by omega) (by omega); omega
  rw [b32_mod] at ha hb; unfold tn; rw [BitVec.toNat_xor, ha, hb]
theorem cnt64 (b : Int) (b0 : 0 ≤ b) (b1 : b ≤ 18446744073709551615) : b.toNat % 64 = (b64 b).toNat % 64 := by have := toNat64 b b0 b1; omega
theorem cnt32 (b : Int) : (b % 4294967296).toNat % 32 = (b32 b).toNat % 32 := by
  have := toNat32 (b % 4294967296) (by omega) (by omega); rw [b32_mod] at this; omega
end Go.Proofs.YtejcjjimhaokfaaDoor.Num
