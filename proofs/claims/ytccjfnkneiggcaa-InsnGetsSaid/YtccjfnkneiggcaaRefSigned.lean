/-
  Contracts of the document's instructions: signed.
-/
import Derived.Test.YtccjfnkneiggcaaRefE
namespace Go.Proofs.Ytccjfnkneiggcaa.Insn
open Go.RowKit Go.Proofs.Ytccjfnkneiggcaa.Num Go.Proofs.Ytccjfnkneiggcaa.Bytes Go.Proofs.Ytccjfnkneiggcaa.RefB
/-- The number of n bytes from k on, without its sign. -/
def numAt (zs : List Int) (k n : Nat) : Nat := leV (fun j => (zs.getD (k + j) 0).toNat) n
/-- A number of n bytes, n one of 2, 4, 8, with its sign. -/
def signR (u n : Nat) : Int := if u < 256 ^ n / 2 then (u : Int) else (u : Int) - 256 ^ n
set_option maxHeartbeats 2000000 in
theorem signed_any (b off len cap k n : Nat) (zs : List Int) (w : World) (hl : len ≤ 140737488355328) (hz : zs.length = len) (hr : Row w b off zs) (hn : n = 2 ∨ n = 4 ∨ n = 8) (hk : k + n ≤ len) :
    Calls Try.prog 48 #[.slice (some ⟨b, off, none⟩) len cap, .int .i64 k, .int .i64 n] w fun e w' => e = .returned (.int .i64 (signR (numAt zs k n) n)) ∧ w = w' := by
  have H := rget_yes b off len cap zs k n w (by omega) hz hr (by rcases hn with rfl | rfl | rfl <;> simp [fitsB] <;> omega)
  rw [Int.toNat_natCast, Int.toNat_natCast] at H
  have hlt : numAt zs k n < 256 ^ n := leV_lt _ (fun i => by have := hr.2 (k + i); omega) n
  change Calls _ _ _ _ (fun e w' => e = .returned (.tuple #[.int .u64 (numAt zs k n : Nat), .bool true]) ∧ w = w') at H
  have K := hid H; clear H hr hz
  generalize numAt zs k n = u at K hlt ⊢
  rcases hn with rfl | rfl | rfl
  · rw [show ((2 : Nat) : Int) = 2 from rfl]
    by_cases hs : u < 32768
    · have sr : Hid (signR u 2 = u) := hid (by unfold signR; rw [if_pos (by omega)])
      have d1 : decide ((32768 : Int) ≤ (u : Int)) = false := by simp; omega
      have wi : IntKind.i64.wrap (u : Int) = u := IntWalk.i64_in _ (by omega)
      go_enter Try.func48, Try.ntmps48
      go_wp2_with fail
      refine K.out.mono ?_
      rintro e w' ⟨rfl, rfl⟩
      go_wp2
      go_ret
      exact ⟨by rw [sr.out]; rfl, rfl⟩
    · have sr : Hid (signR u 2 = u - 65536) := hid (by unfold signR; rw [if_neg (by omega)]; rfl)
      have d1 : decide ((32768 : Int) ≤ (u : Int)) = true := by simp; omega
      have wi : IntKind.i64.wrap (u : Int) = u := IntWalk.i64_in _ (by omega)
      go_enter Try.func48, Try.ntmps48
      go_wp2_with fail
      refine K.out.mono ?_
      rintro e w' ⟨rfl, rfl⟩
      go_wp2
      go_ret
      exact ⟨by rw [sr.out]; rfl, rfl⟩
  · rw [show ((4 : Nat) : Int) = 4 from rfl]
    by_cases hs : u < 2147483648
    · have sr : Hid (signR u 4 = u) := hid (by unfold signR; rw [if_pos (by omega)])
      have d1 : decide ((2147483648 : Int) ≤ (u : Int)) = false := by simp; omega
      have wi : IntKind.i64.wrap (u : Int) = u := IntWalk.i64_in _ (by omega)
      go_enter Try.func48, Try.ntmps48
      go_wp2_with fail
      refine K.out.mono ?_
      rintro e w' ⟨rfl, rfl⟩
      go_wp2
      go_ret
      exact ⟨by rw [sr.out]; rfl, rfl⟩
    · have sr : Hid (signR u 4 = u - 4294967296) := hid (by unfold signR; rw [if_neg (by omega)]; rfl)
      have d1 : decide ((2147483648 : Int) ≤ (u : Int)) = true := by simp; omega
      have wi : IntKind.i64.wrap (u : Int) = u := IntWalk.i64_in _ (by omega)
      go_enter Try.func48, Try.ntmps48
      go_wp2_with fail
      refine K.out.mono ?_
      rintro e w' ⟨rfl, rfl⟩
      go_wp2
      go_ret
      exact ⟨by rw [sr.out]; rfl, rfl⟩
  · rw [show ((8 : Nat) : Int) = 8 from rfl]
    by_cases hs : u < 9223372036854775808
    · have sr : Hid (signR u 8 = u) := hid (by unfold signR; rw [if_pos (by omega)])
      have d1 : decide ((9223372036854775808 : Int) ≤ (u : Int)) = false := by simp; omega
      have wi : IntKind.i64.wrap (u : Int) = u := IntWalk.i64_in _ (by omega)
      go_enter Try.func48, Try.ntmps48
      go_wp2_with fail
      refine K.out.mono ?_
      rintro e w' ⟨rfl, rfl⟩
      go_wp2
      go_ret
      exact ⟨by rw [sr.out]; rfl, rfl⟩
    · have sr : Hid (signR u 8 = u - 18446744073709551616) := hid (by unfold signR; rw [if_neg (by omega)]; rfl)
      have d1 : decide ((9223372036854775808 : Int) ≤ (u : Int)) = true := by simp; omega
      have wi : IntKind.i64.wrap (u : Int) = u - 18446744073709551616 := by rw [IntKind.wrap_i64]; omega
      go_enter Try.func48, Try.ntmps48
      go_wp2_with fail
      refine K.out.mono ?_
      rintro e w' ⟨rfl, rfl⟩
      go_wp2
      go_ret
      exact ⟨by rw [sr.out]; rfl, rfl⟩
end Go.Proofs.Ytccjfnkneiggcaa.Insn
