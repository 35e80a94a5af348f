/-
  Plain facts on bytes: a row of them in memory, and the number that they are, the lowest first.
-/
import Derived.Test.YtejcjjimhaokfaaDoorNum
namespace Go.Proofs.YtejcjjimhaokfaaDoor.Num
open Go.RowKit
/-- Where a number of so many bytes fits. -/
def fitsB (l a s : Int) : Bool := (s == 1 || s == 2 || s == 4 || s == 8) && decide (0 ≤ a) && decide (a ≤ l - s)
theorem fitsB_size {l a s : Int} (h : fitsB l a s = true) : (s = 1 ∨ s = 2 ∨ s = 4 ∨ s = 8) ∧ 0 ≤ a ∧ a ≤ l - s := by
  unfold fitsB at h
  simp only [Bool.and_eq_true, Bool.or_eq_true, beq_iff_eq, decide_eq_true_eq] at h
  omega
/-- The bytes from 'off' on in block b. -/
def Row (w : World) (b off : Nat) (zs : List Int) : Prop :=
  (∀ i, i < zs.length → w.cell? ⟨b, off + i, none⟩ = some (.int .u8 (zs.getD i 0))) ∧ ∀ i, 0 ≤ zs.getD i 0 ∧ zs.getD i 0 ≤ 255
def leV (f : Nat → Nat) : Nat → Nat
  | 0 => 0
  | k + 1 => leV f k + f k * 256 ^ k
theorem leV_lt (f : Nat → Nat) (hf : ∀ i, f i < 256) (k : Nat) : leV f k < 256 ^ k := by
  induction k with
  | zero => simp [leV]
  | succ k ih =>
    have h := hf k
    have : f k * 256 ^ k ≤ 255 * 256 ^ k := Nat.mul_le_mul_right _ (by omega)
    simp only [leV]; rw [Nat.pow_succ]; omega
theorem leV_top (f : Nat → Nat) (k : Nat) : leV f (k + 1) = f 0 + 256 * leV (fun i => f (i + 1)) k := by
  induction k with
  | zero => simp [leV]
  | succ k ih =>
    rw [leV, ih]; simp only [leV]
    rw [Nat.mul_add, Nat.pow_succ]
    have : f (k + 1) * (256 ^ k * 256) = 256 * (f (k + 1) * 256 ^ k) := by
      rw [Nat.mul_comm (256 ^ k) 256, Nat.mul_left_comm]
    omega
theorem leV_lt64 (f : Nat → Nat) (hf : ∀ i, f i < 256) (k : Nat) (hk : k ≤ 8) : leV f k ≤ 18446744073709551615 := by
  have h := leV_lt f hf k
  have : 256 ^ k ≤ 256 ^ 8 := Nat.pow_le_pow_right (by omega) hk
  have e : 256 ^ 8 = 18446744073709551616 := rfl
  omega
/-- What a round of the program's reading does. -/
theorem leV_or (f : Nat → Nat) (hf : ∀ i, f i < 256) (k : Nat) (hk : k < 8) :
    bits .or .u64 (leV f k : Nat) (IntKind.u64.wrap ((f k : Nat) * 2 ^ (8 * k))) = ((leV f (k + 1) : Nat) : Int) := by
  have hl := leV_lt f hf k
  have hl' := leV_lt64 f hf (k + 1) (by omega)
  have e8 : 256 ^ k = 2 ^ (8 * k) := by rw [show 256 = 2 ^ 8 from rfl, ← Nat.pow_mul]
  have es : leV f (k + 1) = leV f k + f k * 2 ^ (8 * k) := by rw [← e8]; rfl
  have ew : IntKind.u64.wrap ((f k : Nat) * 2 ^ (8 * k)) = ((f k * 2 ^ (8 * k) : Nat) : Int) := by
    rw [show ((f k : Nat) : Int) * 2 ^ (8 * k) = ((f k * 2 ^ (8 * k) : Nat) : Int) by simp, IntKind.wrap_u64]; omega
  rw [ew, or64, ← or64N _ _ (by omega) (by omega) (by omega) (by omega), Int.toNat_natCast, Int.toNat_natCast, es]
  rw [e8] at hl
  rw [Nat.or_comm, Nat.mul_comm, ← Nat.two_pow_add_eq_or_of_lt hl, Nat.add_comm]
theorem leV_bytes (v k : Nat) : leV (fun j => v / 256 ^ j % 256) k = v % 256 ^ k := by
  induction k with
  | zero => simp [leV, Nat.mod_one]
  | succ k ih =>
    simp only [leV]
    rw [ih, Nat.pow_succ, Nat.mod_mul, Nat.mul_comm (256 ^ k)]
theorem leV_ext (f g : Nat → Nat) (k : Nat) (h : ∀ j, j < k → f j = g j) : leV f k = leV g k := by
  induction k with
  | zero => rfl
  | succ k ih => simp only [leV]; rw [ih (fun j hj => h j (by omega)), h k (by omega)]
end Go.Proofs.YtejcjjimhaokfaaDoor.Num
