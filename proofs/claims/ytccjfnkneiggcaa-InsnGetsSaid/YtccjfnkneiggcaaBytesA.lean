/-
  Contracts of the bytes' functions: fits, there, Get.
-/
import Derived.Test.YtccjfnkneiggcaaRows
import Derived.Test.YtccjfnkneiggcaaNumC
import Derived.WalkKit
import Derived.WalkSpells
import Derived.WalkLawsBesides
namespace Go.Proofs.Ytccjfnkneiggcaa.Bytes
open Go.RowKit Go.Proofs.Ytccjfnkneiggcaa.Num
theorem fits_any (l a s : Int) (w : World) (l0 : 0 ≤ l) (l1 : l ≤ 9223372036854775807) :
    Calls Try.prog 63 #[.int .i64 l, .int .i64 a, .int .i64 s] w fun e w' => e = .returned (.bool (fitsB l a s)) ∧ w = w' := by
  by_cases h1 : s = 1 ∨ s = 2 ∨ s = 4 ∨ s = 8
  · by_cases ha : 0 ≤ a
    · rcases h1 with rfl | rfl | rfl | rfl
      all_goals
        go_enter Try.func63, Try.ntmps63
        go_wp2
        go_ret
        exact ⟨by simp [fitsB, ha], rfl⟩
    · have hd : decide (0 ≤ a) = false := by simpa using ha
      have e : fitsB l a s = false := by simp [fitsB, hd]
      rw [e]
      rcases h1 with rfl | rfl | rfl | rfl
      all_goals
        go_enter Try.func63, Try.ntmps63
        go_wp2
        go_ret
        exact ⟨rfl, rfl⟩
  · have e1 : (s == 1) = false := by simp; omega
    have e2 : (s == 2) = false := by simp; omega
    have e4 : (s == 4) = false := by simp; omega
    have e8 : (s == 8) = false := by simp; omega
    have e : fitsB l a s = false := by simp [fitsB, e1, e2, e4, e8]
    rw [e]
    clear h1
    go_enter Try.func63, Try.ntmps63
    go_wp2
    go_ret
    exact ⟨rfl, rfl⟩
theorem get_no (a : Option Addr) (len cap : Nat) (i s : Int) (w : World) (hl : len ≤ 9223372036854775807) (h : fitsB len i s = false) :
    Calls Try.prog 60 #[.slice a len cap, .int .i64 i, .int .i64 s] w fun e w' => e = .returned (.tuple #[.int .u64 0, .bool false]) ∧ w = w' := by
  have H := fits_any len i s w (by omega) (by omega)
  rw [h] at H
  have K := hid H; clear H h
  go_enter Try.func60, Try.ntmps60
  go_wp2_with (go_at_call 63; refine K.out.mono ?_; rintro e w' ⟨rfl, rfl⟩)
  go_ret2
  exact ⟨rfl, rfl⟩
theorem get_yes (b off len cap : Nat) (zs : List Int) (i s : Int) (w : World) (hl : len ≤ 9223372036854775807) (hz : zs.length = len) (hr : Row w b off zs) (h : fitsB len i s = true) :
    Calls Try.prog 60 #[.slice (some ⟨b, off, none⟩) len cap, .int .i64 i, .int .i64 s] w fun e w' => e = .returned (.tuple #[.int .u64 (leV (fun j => (zs.getD (i.toNat + j) 0).toNat) s.toNat : Nat), .bool true]) ∧ w = w' := by
  have H := fits_any len i s w (by omega) (by omega)
  rw [h] at H
  have K := hid H; clear H
  obtain ⟨hs, i0, i1⟩ := fitsB_size h
  clear h
  obtain ⟨n, rfl⟩ := Int.eq_ofNat_of_zero_le i0
  obtain ⟨m, rfl⟩ := Int.eq_ofNat_of_zero_le (show 0 ≤ s by omega)
  have hm : m ≤ 8 := by omega
  have hm1 : 1 ≤ m := by omega
  have hf : ∀ j, (zs.getD (n + j) 0).toNat < 256 := fun j => by have := hr.2 (n + j); omega
  have hc : ∀ j, j < m → w.cell? ⟨b, off + (n + j), none⟩ = some (.int .u8 ((zs.getD (n + j) 0).toNat : Nat)) := fun j hj => by
    rw [hr.1 (n + j) (by omega), Int.toNat_of_nonneg (hr.2 (n + j)).1]
  rw [Int.toNat_natCast, Int.toNat_natCast]
  generalize hF : (fun j => (zs.getD (n + j) 0).toNat) = F at hf
  have hC : ∀ j, j < m → w.cell? ⟨b, off + (n + j), none⟩ = some (.int .u8 (F j : Nat)) := by subst hF; exact hc
  have hf : ∀ j, F j < 256 := by subst hF; exact hf
  clear hF hc hs hz hr
  have Hf := hid hf; clear hf
  have HC := hid hC; clear hC
  go_enter Try.func60, Try.ntmps60
  go_wp2_with (go_at_call 63; refine K.out.mono ?_; rintro e w' ⟨rfl, rfl⟩)
  go_loop [8, 17] (fun v c => ∃ k : Nat, k ≤ m ∧ c = .int .i64 k ∧ v = .int .u64 (leV F k : Nat)) (fun _ c => m - (intOf c).toNat)
  case atStart => exact ⟨0, Nat.zero_le _, rfl, rfl⟩
  case round =>
    obtain ⟨k, hk, rfl, rfl⟩ := hrel
    by_cases hlt : k < m
    · have hck := HC.out k hlt
      have b1 := Hf.out k
      go_wp2
      go_round
      case rel => exact ⟨k + 1, by omega, by go_num, val_u64 (leV_or F Hf.out k (by omega))⟩
      case measure => simp [intOf]; omega
    · go_wp2
      have : k = m := by omega
      subst this
      go_ret2
      exact ⟨rfl, rfl⟩
end Go.Proofs.Ytccjfnkneiggcaa.Bytes
