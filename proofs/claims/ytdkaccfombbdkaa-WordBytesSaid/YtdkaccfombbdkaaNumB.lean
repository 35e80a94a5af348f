/-
  Plain facts on bytes that are turned round.
-/
import Derived.Test.YtdkaccfombbdkaaNum
namespace Go.Proofs.Ytdkaccfombbdkaa.Num
open Go.RowKit
/-! ### Bytes turned round -/
def m8 : BitVec 64 := BitVec.ofNat 64 71777214294589695
def m16 : BitVec 64 := BitVec.ofNat 64 281470681808895
def rev1 (x : BitVec 64) : BitVec 64 := ((x >>> 8) &&& m8) ||| ((x &&& m8) <<< 8)
def rev2 (x : BitVec 64) : BitVec 64 := ((x >>> 16) &&& m16) ||| ((x &&& m16) <<< 16)
def rev3 (x : BitVec 64) : BitVec 64 := (x >>> 32) ||| (x <<< 32)
def revV (x : BitVec 64) : BitVec 64 := rev3 (rev2 (rev1 x))
def flip (s i : Nat) : Nat := if i / s % 2 = 0 then i + s else i - s
theorem m8_bits : ∀ i : Fin 64, m8.getLsbD i.val = decide (i.val / 8 % 2 = 0) := by decide
theorem m16_bits : ∀ i : Fin 64, m16.getLsbD i.val = decide (i.val / 16 % 2 = 0) := by decide
theorem rev1_bits (x : BitVec 64) (i : Nat) (h : i < 64) : (rev1 x).getLsbD i = x.getLsbD (flip 8 i) := by
  unfold rev1 flip
  have e := m8_bits ⟨i, h⟩
  simp only at e
  rw [BitVec.getLsbD_or, BitVec.getLsbD_and, BitVec.getLsbD_shiftLeft, BitVec.getLsbD_and, BitVec.getLsbD_ushiftRight, e]
  by_cases h1 : i / 8 % 2 = 0
  · have e2 : ¬ i < 8 → m8.getLsbD (i - 8) = false := fun h8 => by
      have := m8_bits ⟨i - 8, by omega⟩; simp only at this; rw [this]; simp; omega
    rw [if_pos h1, Nat.add_comm]
    by_cases h8 : i < 8
    · simp [h1, h8]
    · simp [h1, h8, e2 h8]
  · have e2 : m8.getLsbD (i - 8) = true := by
      have := m8_bits ⟨i - 8, by omega⟩; simp only at this; rw [this]; simp; omega
    have h8 : ¬ i < 8 := by omega
    rw [if_neg h1]; simp [h1, h8, e2, h]
theorem rev2_bits (x : BitVec 64) (i : Nat) (h : i < 64) : (rev2 x).getLsbD i = x.getLsbD (flip 16 i) := by
  unfold rev2 flip
  have e := m16_bits ⟨i, h⟩
  simp only at e
  rw [BitVec.getLsbD_or, BitVec.getLsbD_and, BitVec.getLsbD_shiftLeft, BitVec.getLsbD_and, BitVec.getLsbD_ushiftRight, e]
  by_cases h1 : i / 16 % 2 = 0
  · have e2 : ¬ i < 16 → m16.getLsbD (i - 16) = false := fun h8 => by
      have := m16_bits ⟨i - 16, by omega⟩; simp only at this; rw [this]; simp; omega
    rw [if_pos h1, Nat.add_comm]
    by_cases h8 : i < 16
    · simp [h1, h8]
    · simp [h1, h8, e2 h8]
  · have e2 : m16.getLsbD (i - 16) = true := by
      have := m16_bits ⟨i - 16, by omega⟩; simp only at this; rw [this]; simp; omega
    have h8 : ¬ i < 16 := by omega
    rw [if_neg h1]; simp [h1, h8, e2, h]
theorem rev3_bits (x : BitVec 64) (i : Nat) (h : i < 64) : (rev3 x).getLsbD i = x.getLsbD (flip 32 i) := by
  unfold rev3 flip
  rw [BitVec.getLsbD_or, BitVec.getLsbD_shiftLeft, BitVec.getLsbD_ushiftRight]
  by_cases h1 : i < 32
  · rw [if_pos (by omega), Nat.add_comm]; simp [h1]
  · rw [if_neg (by omega), BitVec.getLsbD_of_ge _ _ (by omega : 64 ≤ 32 + i)]; simp [h1, h]
theorem flips : ∀ i : Fin 64, flip 32 i.val < 64 ∧ flip 16 (flip 32 i.val) < 64 ∧ flip 8 (flip 16 (flip 32 i.val)) = 56 - i.val / 8 * 8 + i.val % 8 := by decide
theorem rev_bits (x : BitVec 64) (i : Nat) (h : i < 64) : (revV x).getLsbD i = x.getLsbD (56 - i / 8 * 8 + i % 8) := by
  have f := flips ⟨i, h⟩
  simp only at f
  unfold revV
  rw [rev3_bits _ _ h, rev2_bits _ _ f.1, rev1_bits _ _ f.2.1, f.2.2]
theorem tn_shr8 (x : BitVec 64) : tn x / (256 : Int) = tn (x >>> 8) := by rw [show (256 : Int) = 2 ^ 8 from rfl, shr64 _ _ (tn_lo x) (tn_hi64 x), b64_tn]
theorem tn_shr16 (x : BitVec 64) : tn x / (65536 : Int) = tn (x >>> 16) := by rw [show (65536 : Int) = 2 ^ 16 from rfl, shr64 _ _ (tn_lo x) (tn_hi64 x), b64_tn]
theorem tn_shr32 (x : BitVec 64) : tn x / (4294967296 : Int) = tn (x >>> 32) := by rw [show (4294967296 : Int) = 2 ^ 32 from rfl, shr64 _ _ (tn_lo x) (tn_hi64 x), b64_tn]
theorem tn_shl8 (x : BitVec 64) : IntKind.u64.wrap (tn x * 256) = tn (x <<< 8) := by rw [show (256 : Int) = 2 ^ 8 from rfl, shl64, b64_tn]
theorem tn_shl16 (x : BitVec 64) : IntKind.u64.wrap (tn x * 65536) = tn (x <<< 16) := by rw [show (65536 : Int) = 2 ^ 16 from rfl, shl64, b64_tn]
theorem tn_shl32 (x : BitVec 64) : IntKind.u64.wrap (tn x * 4294967296) = tn (x <<< 32) := by rw [show (4294967296 : Int) = 2 ^ 32 from rfl, shl64, b64_tn]
theorem tn_m8 (x : BitVec 64) : bits .and .u64 (tn x) 71777214294589695 = tn (x &&& m8) := by rw [and64, b64_tn]; rfl
theorem tn_m16 (x : BitVec 64) : bits .and .u64 (tn x) 281470681808895 = tn (x &&& m16) := by rw [and64, b64_tn]; rfl
theorem tn_or (x y : BitVec 64) : bits .or .u64 (tn x) (tn y) = tn (x ||| y) := by rw [or64, b64_tn, b64_tn]
/-! ### Swap -/
def swapIs (n : Int) : Bool := n == 16 || n == 32 || n == 64
def swapN (n : Nat) (big : Bool) (a : Int) : Int := if big then tn (revV (b64 a) >>> (64 - n)) else a % 2 ^ n
def swapA (n : Int) (big : Bool) (a : Int) : Int := if swapIs n then swapN n.toNat big a else 0
def posS (n i : Nat) : Nat := n - 8 - i / 8 * 8 + i % 8
theorem posS_16 : ∀ i : Fin 16, posS 16 i.val < 16 ∧ posS 16 (posS 16 i.val) = i.val ∧ 56 - (64 - 16 + i.val) / 8 * 8 + (64 - 16 + i.val) % 8 = posS 16 i.val := by decide
theorem posS_32 : ∀ i : Fin 32, posS 32 i.val < 32 ∧ posS 32 (posS 32 i.val) = i.val ∧ 56 - (64 - 32 + i.val) / 8 * 8 + (64 - 32 + i.val) % 8 = posS 32 i.val := by decide
theorem posS_64 : ∀ i : Fin 64, posS 64 i.val < 64 ∧ posS 64 (posS 64 i.val) = i.val ∧ 56 - (64 - 64 + i.val) / 8 * 8 + (64 - 64 + i.val) % 8 = posS 64 i.val := by decide
theorem posS_any (n : Nat) (hn : n = 16 ∨ n = 32 ∨ n = 64) (i : Nat) (h : i < n) : posS n i < n ∧ posS n (posS n i) = i ∧ 56 - (64 - n + i) / 8 * 8 + (64 - n + i) % 8 = posS n i := by
  rcases hn with rfl | rfl | rfl
  · exact posS_16 ⟨i, h⟩
  · exact posS_32 ⟨i, h⟩
  · exact posS_64 ⟨i, h⟩
theorem posS_inj (n : Nat) (hn : n = 16 ∨ n = 32 ∨ n = 64) (i j : Nat) (hi : i < n) (hj : j < n) (h : posS n i = posS n j) : i = j := by
  rw [← (posS_any n hn i hi).2.1, h, (posS_any n hn j hj).2.1]
theorem gather_swap (n : Nat) (hn : n = 16 ∨ n = 32 ∨ n = 64) (a : Nat) (x : BitVec 64) (hx : ∀ j, j < n → x.getLsbD j = a.testBit j) :
    gather (fun i => a.testBit i) (posS n) n = (revV x >>> (64 - n)).toNat := by
  have hn64 : n ≤ 64 := by omega
  apply Nat.eq_of_testBit_eq
  intro j
  rw [BitVec.testBit_toNat, BitVec.getLsbD_ushiftRight, Bool.eq_iff_iff, gather_bits _ _ n (posS_inj n hn) n (Nat.le_refl n) j]
  by_cases hj : j < n
  · have p := posS_any n hn j hj
    rw [rev_bits x _ (by omega), p.2.2, hx _ p.1]
    constructor
    · rintro ⟨i, hi, h, h'⟩
      rw [← h, (posS_any n hn i hi).2.1]; exact h'
    · intro h; exact ⟨posS n j, p.1, p.2.1, h⟩
  · rw [BitVec.getLsbD_of_ge _ _ (by omega)]
    constructor
    · rintro ⟨i, hi, h, _⟩; have := (posS_any n hn i hi).1; omega
    · intro h; cases h
theorem gather_swap_lt (n : Nat) (hn : n = 16 ∨ n = 32 ∨ n = 64) (P : Nat → Bool) (k : Nat) (hk : k ≤ n) : gather P (posS n) k < 18446744073709551616 :=
  gather_lt P (posS n) n (posS_inj n hn) 64 k hk (fun i hi => by have := (posS_any n hn i hi).1; omega)
theorem swapA_16 (a : Int) : IntKind.u64.wrap (a * 281474976710656) / 281474976710656 = swapA 16 false a := by
  rw [IntKind.wrap_u64]; show _ = a % 2 ^ 16; omega
theorem swapA_32 (a : Int) : IntKind.u64.wrap (a * 4294967296) / 4294967296 = swapA 32 false a := by
  rw [IntKind.wrap_u64]; show _ = a % 2 ^ 32; omega
theorem swapA_64 (a : Int) (a0 : 0 ≤ a) (a1 : a ≤ 18446744073709551615) : a = swapA 64 false a := by
  show _ = a % 2 ^ 64; omega
theorem swapA_16b (a : Int) : tn (revV (b64 a)) / (281474976710656 : Int) = swapA 16 true a := by
  rw [show (281474976710656 : Int) = 2 ^ 48 from rfl, shr64 _ _ (tn_lo _) (tn_hi64 _), b64_tn]; rfl
theorem swapA_32b (a : Int) : tn (revV (b64 a)) / (4294967296 : Int) = swapA 32 true a := by
  rw [show (4294967296 : Int) = 2 ^ 32 from rfl, shr64 _ _ (tn_lo _) (tn_hi64 _), b64_tn]; rfl
theorem swapA_64b (a : Int) : tn (revV (b64 a)) = swapA 64 true a := by
  show _ = tn (revV (b64 a) >>> 0); rw [BitVec.ushiftRight_zero]
end Go.Proofs.Ytdkaccfombbdkaa.Num
