/-
  Contracts of the bytes' functions: Put.
-/
import Derived.Test.YtccjfnkneiggcaaBytesA
import Derived.Test.YtccjfnkneiggcaaListA
namespace Go.Proofs.Ytccjfnkneiggcaa.Bytes
open Go.RowKit Go.Proofs.Ytccjfnkneiggcaa.Num Go.Proofs.Ytccjfnkneiggcaa.ListB
def putK (zs : List Int) (at0 v : Nat) : Nat → List Int
  | 0 => zs
  | k + 1 => (putK zs at0 v k).set (at0 + k) ((v / 256 ^ k % 256 : Nat) : Int)
theorem putK_length (zs : List Int) (at0 v k : Nat) : (putK zs at0 v k).length = zs.length := by
  induction k with
  | zero => rfl
  | succ k ih => simp [putK, ih]
theorem putK_get (zs : List Int) (at0 v k j : Nat) (hk : at0 + k ≤ zs.length) : (putK zs at0 v k).getD j 0 = if at0 ≤ j ∧ j < at0 + k then ((v / 256 ^ (j - at0) % 256 : Nat) : Int) else zs.getD j 0 := by
  induction k with
  | zero => rw [if_neg (by omega)]; rfl
  | succ k ih =>
    simp only [putK]
    by_cases hj : j = at0 + k
    · subst hj
      rw [if_pos (by omega), show at0 + k - at0 = k by omega]
      rw [List.getD_eq_getElem?_getD, List.getElem?_set_self (by rw [putK_length]; omega)]; rfl
    · have e : ((putK zs at0 v k).set (at0 + k) ((v / 256 ^ k % 256 : Nat) : Int)).getD j 0 = (putK zs at0 v k).getD j 0 := by
        rw [List.getD_eq_getElem?_getD, List.getElem?_set_ne (by omega), List.getD_eq_getElem?_getD]
      rw [e, ih (by omega)]
      by_cases hc : at0 ≤ j ∧ j < at0 + k
      · rw [if_pos hc, if_pos (by omega)]
      · rw [if_neg hc, if_neg (by omega)]
theorem putK_bd (zs : List Int) (at0 v k : Nat) (hk : at0 + k ≤ zs.length) (hb : ∀ i, 0 ≤ zs.getD i 0 ∧ zs.getD i 0 ≤ 255) (i : Nat) : 0 ≤ (putK zs at0 v k).getD i 0 ∧ (putK zs at0 v k).getD i 0 ≤ 255 := by
  rw [putK_get zs at0 v k i hk]
  split
  · omega
  · exact hb i
theorem V_set (zs : List Int) (j : Nat) (x : Int) : (V zs).set j (.int .u8 x) = V (zs.set j x) := by unfold V; rw [List.map_set]
theorem V_get (zs : List Int) (j : Nat) (h : j < zs.length) : (V zs)[j]? = some (.int .u8 (zs.getD j 0)) := by unfold V; simp [h]
theorem byteK (a : Int) (k : Nat) (a0 : 0 ≤ a) : a / 2 ^ (8 * k) % 256 = ((a.toNat / 256 ^ k % 256 : Nat) : Int) := by
  obtain ⟨m, rfl⟩ := Int.eq_ofNat_of_zero_le a0
  rw [Int.toNat_natCast, Int.natCast_emod, Int.natCast_ediv, Int.natCast_pow, show (2 : Int) ^ (8 * k) = ((256 : Nat) : Int) ^ k by rw [Int.pow_mul]; rfl]
  rfl
theorem grownBy_trans {a b c : World} {r : Option Nat} (h : a.grownBy b r) (k : b.grownBy c r) : a.grownBy c r :=
  ⟨k.os.trans h.os, k.tape.trans h.tape, k.output.trans h.output, Nat.le_trans h.size k.size, fun i hi hne => (k.block i (Nat.lt_of_lt_of_le hi h.size) hne).trans (h.block i hi hne)⟩
theorem put_no (a : Option Addr) (len cap : Nat) (i s v : Int) (w : World) (hl : len ≤ 9223372036854775807) (h : fitsB len i s = false) :
    Calls Try.prog 59 #[.slice a len cap, .int .i64 i, .int .i64 s, .int .u64 v] w fun e w' => e = .returned (.bool false) ∧ w = w' := by
  have H := fits_any len i s w (by omega) (by omega)
  rw [h] at H
  have K := hid H; clear H h
  go_enter Try.func59, Try.ntmps59
  go_wp2_with (go_at_call 63; refine K.out.mono ?_; rintro e w' ⟨rfl, rfl⟩)
  go_ret
  exact ⟨rfl, rfl⟩
theorem put_yes (base g N c len cap : Nat) (zs : List Int) (i s v : Int) (w : World) (hl : len ≤ 9223372036854775807) (hz : zs.length = N) (hN : len ≤ N)
    (hown : w.ownsRow base 5 1 (.slice (some ⟨g, 0, none⟩) N c) N (V zs)) (h : fitsB len i s = true) (v0 : 0 ≤ v) :
    Calls Try.prog 59 #[.slice (some ⟨g, 0, none⟩) len cap, .int .i64 i, .int .i64 s, .int .u64 v] w fun e w' => e = .returned (.bool true) ∧
      w'.ownsRow base 5 1 (.slice (some ⟨g, 0, none⟩) N c) N (V (putK zs i.toNat v.toNat s.toNat)) ∧ w.grownBy w' (some g) := by
  have H := fits_any len i s w (by omega) (by omega)
  rw [h] at H
  have K := hid H; clear H
  obtain ⟨hs, i0, i1⟩ := fitsB_size h
  clear h
  obtain ⟨n, rfl⟩ := Int.eq_ofNat_of_zero_le i0
  obtain ⟨m, rfl⟩ := Int.eq_ofNat_of_zero_le (show 0 ≤ s by omega)
  have hm : m ≤ 8 := by omega
  have hm1 : 1 ≤ m := by omega
  rw [Int.toNat_natCast, Int.toNat_natCast]
  clear hs
  have HZ := hid hz; clear hz
  go_enter Try.func59, Try.ntmps59
  go_wp2_with (go_at_call 63; refine K.out.mono ?_; rintro e w' ⟨rfl, rfl⟩)
  go_loopw [17] (fun i wr => ∃ k : Nat, k ≤ m ∧ i = .int .i64 k ∧ wr.ownsRow base 5 1 (.slice (some ⟨g, 0, none⟩) N c) N (V (putK zs n v.toNat k)) ∧ w.grownBy wr (some g)) (fun i _ => m - (intOf i).toNat)
  case atStart => exact ⟨0, Nat.zero_le _, rfl, hown, World.grownBy.refl _ _⟩
  case round =>
    obtain ⟨k, hk, rfl, hown2, hgr⟩ := hrel
    by_cases hlt : k < m
    · have hcell := (hown2.cellAt (n + k) (by omega)).trans (V_get _ _ (by rw [putK_length, HZ.out]; omega))
      have hfr := hown2.frozenAt (n + k)
      have hst := hown2.stored (n + k) (.int .u8 ((v.toNat / 256 ^ k % 256 : Nat) : Int))
      rw [V_set] at hst
      have HST := hid hst
      have HG := hid hgr
      generalize (putK zs n v.toNat k).getD (n + k) 0 = y at hcell
      clear hst hown2 hgr
      go_wp2
      rw [byteK v k v0]
      go_roundw
      case rel => exact ⟨k + 1, by omega, by go_num, HST.out.1, grownBy_trans HG.out HST.out.2⟩
      case measure => simp [intOf]; omega
    · go_wp2
      have : k = m := by omega
      subst this
      go_ret
      exact ⟨rfl, hown2, hgr⟩
end Go.Proofs.Ytccjfnkneiggcaa.Bytes
