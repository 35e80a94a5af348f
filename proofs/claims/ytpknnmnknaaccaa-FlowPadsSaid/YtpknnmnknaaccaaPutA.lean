/-
  Contracts of the bytes' functions: Put.
-/
import Derived.Test.YtpknnmnknaaccaaBytesA
import Derived.Test.YtpknnmnknaaccaaListA
namespace Go.Proofs.Ytpknnmnknaaccaa.Bytes
open Go.RowKit Go.Proofs.Ytpknnmnknaaccaa.Num Go.Proofs.Ytpknnmnknaaccaa.ListB
def putK (zs : List Int) (at0 v : Nat) : Nat → List Int
  | 0 => zs
  | k + 1 => (putK zs at0 v k).set (at0 + k) ((v / 256 ^ k % 256 : Nat) : Int)
theorem putK_length (zs : List Int) (at0 v k : Nat) : (putK zs at0 v k).length = zs.length := by
  induction k with
  | zero => rfl
  | succ k ih => simp [putK, ih]
theorem putK_get (zs : List Int) (at0 v k j : Nat) (hk : at0 + k ≤ zs.length) : (putK zs at0 v k).getD j 0 = if at0 ≤ j ∧ j < at0 + k then ((v / 256 ^ (j - at0) % 256 : Nat) : Int) else zs.getD j 0 := by
  induction k with
  | zero => rw [if_neg (by omega)]; rfl
  | succ k ih =>
    simp only [putK]
    by_cases hj : j = at0 + k
    · subst hj
      rw [if_pos (by omega), show at0 + k - at0 = k by omega]
      rw [List.getD_eq_getElem?_getD, List.getElem?_set_self (by rw [putK_length]; omega)]; rfl
    · have e : ((putK zs at0 v k).set (at0 + k) ((v / 256 ^ k % 256 : Nat) : Int)).getD j 0 = (putK zs at0 v k).getD j 0 := by
        rw [List.getD_eq_getElem?_getD, List.getElem?_set_ne (by omega), List.getD_eq_getElem?_getD]
      rw [e, ih (by omega)]
      by_cases hc : at0 ≤ j ∧ j < at0 + k
      · rw [if_pos hc, if_pos (by omega)]
      · rw [if_neg hc, if_neg (by omega)]
theorem putK_bd (zs : List Int) (at0 v k : Nat) (hk : at0 + k ≤ zs.length) (hb : ∀ i, 0 ≤ zs.getD i 0 ∧ zs.getD i 0 ≤ 255) (i : Nat) : 0 ≤ (putK zs at0 v k).getD i 0 ∧ (putK zs at0 v k).getD i 0 ≤ 255 := by
  rw [putK_get zs at0 v k i hk]
  split
  · omega
  · exact hb i
theorem V_set (zs : List Int) (j : Nat) (x : Int) : (V zs).set j (.int .u8 x) = V (zs.set j x) := by unfold V; rw [List.map_set]
theorem V_get (zs : List Int) (j : Nat) (h : j < zs.length) : (V zs)[j]? = some (.int .u8 (zs.getD j 0)) := by unfold V; simp [h]
theorem byteK (a : Int) (k : Nat) (a0 : 0 ≤ a) : a / 2 ^ (8 * k) % 256 = ((a.toNat / 256 ^ k % 256 : Nat) : Int) := by
  obtain ⟨m, rfl⟩ := Int.eq_ofNat_of_zero_le a0
  rw [Int.toNat_natCast, Int.natCast_emod, Int.natCast_ediv, Int.natCast_pow, show (2 : Int) ^ (8 * k) = ((256 : Nat) : Int) ^ k by rw [Int.pow_mul]; rfl]
  rfl
theorem grownBy_trans {a b c : World} {r : Option Nat} (h : a.grownBy b r) (k : b.grownBy c r) : a.grownBy c r :=
  ⟨k.os.trans h.os, k.tape.trans h.tape, k.output.trans h.output, Nat.le_trans h.size k.size, fun i hi hne => (k.block i (Nat.lt_of_lt_of_le hi h.size) hne).trans (h.block i hi hne)⟩
end Go.Proofs.Ytpknnmnknaaccaa.Bytes
