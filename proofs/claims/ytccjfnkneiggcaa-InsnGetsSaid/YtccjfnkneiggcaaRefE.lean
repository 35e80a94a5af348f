/-
  Contracts of the document's answers for bytes: there, Get, Put.
-/
import Derived.Test.YtccjfnkneiggcaaBytesA
import Derived.Test.YtccjfnkneiggcaaListB
namespace Go.Proofs.Ytccjfnkneiggcaa.RefB
open Go.RowKit Go.Proofs.Ytccjfnkneiggcaa.Num Go.Proofs.Ytccjfnkneiggcaa.ListB Go.Proofs.Ytccjfnkneiggcaa.Bytes
set_option maxHeartbeats 1000000 in
theorem there_any (a : Option Addr) (len cap : Nat) (i s : Int) (w : World) (hl : len ≤ 9223372036854775807) :
    Calls Try.prog 64 #[.slice a len cap, .int .i64 i, .int .i64 s] w fun e w' => e = .returned (.bool (fitsB len i s)) ∧ w = w' := by
  by_cases h1 : s = 1 ∨ s = 2 ∨ s = 4 ∨ s = 8
  · by_cases ha : 0 ≤ i
    · have d1 : decide (0 ≤ i) = true := by simpa using ha
      by_cases hb : i ≤ len
      · have d2 : decide (i ≤ (len : Int)) = true := by simpa using hb
        rcases h1 with rfl | rfl | rfl | rfl
        all_goals
          go_enter Try.func64, Try.ntmps64
          go_wp2
          go_ret
          exact ⟨by unfold fitsB; simp [ha]; omega, rfl⟩
      · have d2 : decide (i ≤ (len : Int)) = false := by simpa using hb
        have e : fitsB len i s = false := by
          rw [Bool.eq_false_iff]; intro hc; have := fitsB_size hc; omega
        have g : (len : Int) < i := by omega
        rw [e]
        clear hb e
        rcases h1 with rfl | rfl | rfl | rfl
        all_goals
          go_enter Try.func64, Try.ntmps64
          go_wp2
          go_ret
          exact ⟨rfl, rfl⟩
    · have hd : decide (0 ≤ i) = false := by simpa using ha
      have e : fitsB len i s = false := by simp [fitsB, hd]
      have g : i < 0 := by omega
      rw [e]
      clear ha e
      rcases h1 with rfl | rfl | rfl | rfl
      all_goals
        go_enter Try.func64, Try.ntmps64
        go_wp2
        go_ret
        exact ⟨rfl, rfl⟩
  · have e1 : (s == 1) = false := by simp; omega
    have e2 : (s == 2) = false := by simp; omega
    have e4 : (s == 4) = false := by simp; omega
    have e8 : (s == 8) = false := by simp; omega
    have e : fitsB len i s = false := by simp [fitsB, e1, e2, e4, e8]
    rw [e]
    clear h1 e
    go_enter Try.func64, Try.ntmps64
    go_wp2
    go_ret
    exact ⟨rfl, rfl⟩
theorem rget_no (a : Option Addr) (len cap : Nat) (i s : Int) (w : World) (hl : len ≤ 9223372036854775807) (h : fitsB len i s = false) :
    Calls Try.prog 61 #[.slice a len cap, .int .i64 i, .int .i64 s] w fun e w' => e = .returned (.tuple #[.int .u64 0, .bool false]) ∧ w = w' := by
  have H := there_any a len cap i s w hl
  rw [h] at H
  have K := hid H; clear H h
  go_enter Try.func61, Try.ntmps61
  go_wp2_with (go_at_call 64; refine K.out.mono ?_; rintro e w' ⟨rfl, rfl⟩)
  go_ret2
  exact ⟨rfl, rfl⟩
/-- What a round of the document's reading does. -/
theorem leV_down (F : Nat → Nat) (m k : Nat) (hk : k + 1 ≤ m) : 256 * leV (fun j => F (j + (k + 1))) (m - (k + 1)) + F k = leV (fun j => F (j + k)) (m - k) := by
  rw [show m - k = (m - (k + 1)) + 1 by omega, leV_top, Nat.zero_add, Nat.add_comm]
  congr 2
  apply leV_ext; intro j _
  rw [show j + (k + 1) = j + 1 + k by omega]
set_option maxHeartbeats 400000 in
theorem rget_yes (b off len cap : Nat) (zs : List Int) (i s : Int) (w : World) (hl : len ≤ 9223372036854775807) (hz : zs.length = len) (hr : Row w b off zs) (h : fitsB len i s = true) :
    Calls Try.prog 61 #[.slice (some ⟨b, off, none⟩) len cap, .int .i64 i, .int .i64 s] w fun e w' => e = .returned (.tuple #[.int .u64 (leV (fun j => (zs.getD (i.toNat + j) 0).toNat) s.toNat : Nat), .bool true]) ∧ w = w' := by
  have H := there_any (some ⟨b, off, none⟩) len cap i s w hl
  rw [h] at H
  have K := hid H; clear H
  obtain ⟨hs, i0, i1⟩ := fitsB_size h
  clear h
  obtain ⟨n, rfl⟩ := Int.eq_ofNat_of_zero_le i0
  obtain ⟨m, rfl⟩ := Int.eq_ofNat_of_zero_le (show 0 ≤ s by omega)
  have hm : m ≤ 8 := by omega
  have hm1 : 1 ≤ m := by omega
  have hf : ∀ j, (zs.getD (n + j) 0).toNat < 256 := fun j => by have := hr.2 (n + j); omega
  have hc : ∀ j, j < m → w.cell? ⟨b, off + (n + j), none⟩ = some (.int .u8 ((zs.getD (n + j) 0).toNat : Nat)) := fun j hj => by
    rw [hr.1 (n + j) (by omega), Int.toNat_of_nonneg (hr.2 (n + j)).1]
  rw [Int.toNat_natCast, Int.toNat_natCast]
  generalize hF : (fun j => (zs.getD (n + j) 0).toNat) = F at hf
  have hC : ∀ j, j < m → w.cell? ⟨b, off + (n + j), none⟩ = some (.int .u8 (F j : Nat)) := by subst hF; exact hc
  have hf : ∀ j, F j < 256 := by subst hF; exact hf
  clear hF hc hs hz hr
  have Hf := hid hf; clear hf
  have HC := hid hC; clear hC
  have hend : Hid ((leV (fun j => F (j + 0)) (m - 0) : Nat) = leV F m) := hid (by rfl)
  go_enter Try.func61, Try.ntmps61
  go_wp2_with (go_at_call 64; refine K.out.mono ?_; rintro e w' ⟨rfl, rfl⟩)
  go_loop [8, 9] (fun v i => ∃ k : Nat, k ≤ m ∧ i = .int .i64 ((k : Int) - 1) ∧ v = .int .u64 (leV (fun j => F (j + k)) (m - k) : Nat)) (fun _ i => (intOf i + 1).toNat)
  case atStart => exact ⟨m, Nat.le_refl _, rfl, by rw [Nat.sub_self]; rfl⟩
  case round =>
    obtain ⟨k, hk, rfl, rfl⟩ := hrel
    match k, hk with
    | k + 1, hk =>
      have hck := HC.out k (by omega)
      have b1 := Hf.out k
      have b2 := leV_lt64 (fun j => F (j + (k + 1))) (fun j => Hf.out _) (m - (k + 1)) (by omega)
      have b3 := leV_lt64 (fun j => F (j + k)) (fun j => Hf.out _) (m - k) (by omega)
      have e := leV_down F m k (by omega)
      rw [← e] at b3
      have E := hid e; clear e
      generalize leV (fun j => F (j + (k + 1))) (m - (k + 1)) = q at b2 b3 E
      generalize hp : leV (fun j => F (j + k)) (m - k) = p at E
      have P := hid hp; clear hp
      go_wp2
      go_round
      case rel => exact ⟨k, by omega, rfl, val_u64 (by rw [P.out, ← E.out]; omega)⟩
      case measure => simp [intOf]
    | 0, _ =>
      go_wp2
      go_ret2
      exact ⟨by rw [← hend.out]; rfl, rfl⟩
end Go.Proofs.Ytccjfnkneiggcaa.RefB
