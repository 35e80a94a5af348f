/-
  Contracts of the program's small functions of instructions: Class, Size, Atomic, bitsOf, signedFits, and the checks of a row's fields.
-/
import Derived.Test.YtpknnmnknaaccaaRefRanged
import Derived.Test.YtpknnmnknaaccaaDevEnter
import Derived.Deep.QuietTactic
import Derived.BigQuiet
namespace Go.Proofs.Ytpknnmnknaaccaa.Insn
open Go.RowKit Go.Proofs.Ytpknnmnknaaccaa.Num
theorem and7 (n : Int) : bits .and .i64 n 7 = n % 8 := by
  have h7 : (BitVec.ofInt 64 7).toNat = 2 ^ 3 - 1 := by decide
  have key : (BitVec.ofInt 64 n &&& BitVec.ofInt 64 7).toNat = (n % ((2 ^ 64 : Nat) : Int)).toNat % 2 ^ 3 := by
    rw [BitVec.toNat_and, BitVec.toNat_ofInt, h7, Nat.and_two_pow_sub_one_eq_mod]
  show IntKind.i64.wrap ((BitVec.ofInt 64 n &&& BitVec.ofInt 64 7).toNat : Nat) = n % 8
  rw [key, IntKind.wrap_i64]
  omega
theorem low24 : ∀ k : Fin 32, k.val &&& 24 = 8 * (k.val / 8) := by decide
theorem and24 (n : Int) : bits .and .i64 n 24 = 8 * (n / 8 % 4) := by
  have h24 : (BitVec.ofInt 64 24).toNat = 24 := by decide
  have key : (BitVec.ofInt 64 n &&& BitVec.ofInt 64 24).toNat = 8 * ((n % ((2 ^ 64 : Nat) : Int)).toNat % 32 / 8) := by
    rw [BitVec.toNat_and, BitVec.toNat_ofInt, h24]
    generalize (n % ((2 ^ 64 : Nat) : Int)).toNat = x
    have e : x &&& 24 = (x % 2 ^ 5) &&& 24 := by
      rw [← Nat.and_two_pow_sub_one_eq_mod, Nat.and_assoc]; rfl
    rw [e]
    exact low24 ⟨x % 2 ^ 5, Nat.mod_lt _ (by decide)⟩
  show IntKind.i64.wrap ((BitVec.ofInt 64 n &&& BitVec.ofInt 64 24).toNat : Nat) = 8 * (n / 8 % 4)
  rw [key, IntKind.wrap_i64]
  omega
theorem dclass_any (op : Int) (w : World) :
    Calls Try.prog 42 #[.int .i64 op] w fun e w' => e = .returned (.int .i64 (op % 8)) ∧ w = w' := by
  go_enter Try.func42, Try.ntmps42
  go_wp2
  go_ret
  exact ⟨by rw [← and7]; rfl, rfl⟩
theorem datomic_any (m : Int) (w : World) :
    Calls Try.prog 63 #[.int .i64 m] w fun e w' => e = .returned (.tuple #[.bool (atomIs m), .bool (atomF m)]) ∧ w = w' := by
  by_cases h0 : m = 0
  · subst h0
    go_enter Try.func63, Try.ntmps63
    go_wp2
    go_ret2
    exact ⟨rfl, rfl⟩
  by_cases h1 : m = 64
  · subst h1
    go_enter Try.func63, Try.ntmps63
    go_wp2
    go_ret2
    exact ⟨rfl, rfl⟩
  by_cases h2 : m = 80
  · subst h2
    go_enter Try.func63, Try.ntmps63
    go_wp2
    go_ret2
    exact ⟨rfl, rfl⟩
  by_cases h3 : m = 160
  · subst h3
    go_enter Try.func63, Try.ntmps63
    go_wp2
    go_ret2
    exact ⟨rfl, rfl⟩
  by_cases h4 : m = 1
  · subst h4
    go_enter Try.func63, Try.ntmps63
    go_wp2
    go_ret2
    exact ⟨rfl, rfl⟩
  by_cases h5 : m = 65
  · subst h5
    go_enter Try.func63, Try.ntmps63
    go_wp2
    go_ret2
    exact ⟨rfl, rfl⟩
  by_cases h6 : m = 81
  · subst h6
    go_enter Try.func63, Try.ntmps63
    go_wp2
    go_ret2
    exact ⟨rfl, rfl⟩
  by_cases h7 : m = 161
  · subst h7
    go_enter Try.func63, Try.ntmps63
    go_wp2
    go_ret2
    exact ⟨rfl, rfl⟩
  by_cases h8 : m = 225
  · subst h8
    go_enter Try.func63, Try.ntmps63
    go_wp2
    go_ret2
    exact ⟨rfl, rfl⟩
  by_cases h9 : m = 241
  · subst h9
    go_enter Try.func63, Try.ntmps63
    go_wp2
    go_ret2
    exact ⟨rfl, rfl⟩
  have e0 : (m == 0) = false := by simp [h0]
  have e1 : (m == 64) = false := by simp [h1]
  have e2 : (m == 80) = false := by simp [h2]
  have e3 : (m == 160) = false := by simp [h3]
  have e4 : (m == 1) = false := by simp [h4]
  have e5 : (m == 65) = false := by simp [h5]
  have e6 : (m == 81) = false := by simp [h6]
  have e7 : (m == 161) = false := by simp [h7]
  have e8 : (m == 225) = false := by simp [h8]
  have e9 : (m == 241) = false := by simp [h9]
  have hi : atomIs m = false := by simp only [atomIs, e0, e1, e2, e3, e4, e5, e6, e7, e8, e9]; rfl
  have hf : atomF m = false := by simp only [atomF, e4, e5, e6, e7, e8, e9]; rfl
  rw [hi, hf]
  clear hi hf h0 h1 h2 h3 h4 h5 h6 h7 h8 h9
  go_enter Try.func63, Try.ntmps63
  go_wp2
  go_ret2
  exact ⟨rfl, rfl⟩
def bitsO (c : Int) : Int := if c = 7 then 64 else 32
theorem bitsOf_any (c : Int) (w : World) :
    Calls Try.prog 64 #[.int .i64 c] w fun e w' => e = .returned (.int .i64 (bitsO c)) ∧ w = w' := by
  by_cases h : c = 7
  · subst h
    go_enter Try.func64, Try.ntmps64
    go_wp2
    go_ret
    exact ⟨rfl, rfl⟩
  · have e : (c == 7) = false := by simp [h]
    rw [show bitsO c = 32 by unfold bitsO; rw [if_neg h]]
    clear h
    go_enter Try.func64, Try.ntmps64
    go_wp2
    go_ret
    exact ⟨rfl, rfl⟩
def sfits (v h : Int) : Bool := decide (-h ≤ v) && decide (v < h)
theorem signedFits_16 (v : Int) (w : World) :
    Calls Try.prog 59 #[.int .i64 v, .int .i64 16] w fun e w' => e = .returned (.bool (sfits v 32768)) ∧ w = w' := by
  cases h : decide (-32768 ≤ v)
  · rw [show sfits v 32768 = false by unfold sfits; rw [h]; rfl]
    go_enter Try.func59, Try.ntmps59
    go_wp2
    go_ret
    exact ⟨rfl, rfl⟩
  · rw [show sfits v 32768 = decide (v < 32768) by unfold sfits; rw [h]; rfl]
    go_enter Try.func59, Try.ntmps59
    go_wp2
    go_ret
    exact ⟨rfl, rfl⟩
theorem signedFits_32 (v : Int) (w : World) :
    Calls Try.prog 59 #[.int .i64 v, .int .i64 32] w fun e w' => e = .returned (.bool (sfits v 2147483648)) ∧ w = w' := by
  cases h : decide (-2147483648 ≤ v)
  · rw [show sfits v 2147483648 = false by unfold sfits; rw [h]; rfl]
    go_enter Try.func59, Try.ntmps59
    go_wp2
    go_ret
    exact ⟨rfl, rfl⟩
  · rw [show sfits v 2147483648 = decide (v < 2147483648) by unfold sfits; rw [h]; rfl]
    go_enter Try.func59, Try.ntmps59
    go_wp2
    go_ret
    exact ⟨rfl, rfl⟩
def lastR (r m : Int) : Int := if r = 2 then 9 else if r = 3 then (if atomF m then 9 else 10) else 10
def fitsR (r n m : Int) : Bool := decide (0 ≤ n) && decide (n ≤ lastR r m)
theorem fitsR_no (r n m : Int) (h : decide (0 ≤ n) = false) : fitsR r n m = false := by unfold fitsR; rw [h]; rfl
theorem fitsR_yes (r n m l : Int) (h : decide (0 ≤ n) = true) (hl : lastR r m = l) : fitsR r n m = decide (n ≤ l) := by unfold fitsR; rw [h, hl]; rfl
set_option maxHeartbeats 1000000 in
theorem fits_any (r n m : Int) (w : World) :
    Calls Try.prog 58 #[.int .u8 r, .int .i64 n, .int .i64 m] w fun e w' => e = .returned (.bool (fitsR r n m)) ∧ w = w' := by
  cases h : decide (0 ≤ n)
  · rw [fitsR_no r n m h]
    by_cases h2 : r = 2
    · subst h2
      go_enter Try.func58, Try.ntmps58
      go_wp2
      go_ret
      exact ⟨rfl, rfl⟩
    have e2 : (r == 2) = false := by simp [h2]
    by_cases h3 : r = 3
    · subst h3
      cases hf : atomF m
      all_goals
        have HF := hid hf
        clear hf
        go_enter Try.func58, Try.ntmps58
        go_wp2_with fail
        refine (datomic_any _ _).mono ?_
        rintro e w' ⟨rfl, rfl⟩
        rw [HF.out]
        go_wp2
        go_ret
        exact ⟨rfl, rfl⟩
    have e3 : (r == 3) = false := by simp [h3]
    clear h2 h3
    go_enter Try.func58, Try.ntmps58
    go_wp2
    go_ret
    exact ⟨rfl, rfl⟩
  · by_cases h2 : r = 2
    · subst h2
      rw [fitsR_yes 2 n m 9 h rfl]
      go_enter Try.func58, Try.ntmps58
      go_wp2
      go_ret
      exact ⟨rfl, rfl⟩
    have e2 : (r == 2) = false := by simp [h2]
    by_cases h3 : r = 3
    · subst h3
      cases hf : atomF m
      · rw [fitsR_yes 3 n m 10 h (by unfold lastR; rw [hf]; rfl)]
        have HF := hid hf
        clear hf
        go_enter Try.func58, Try.ntmps58
        go_wp2_with fail
        refine (datomic_any _ _).mono ?_
        rintro e w' ⟨rfl, rfl⟩
        rw [HF.out]
        go_wp2
        go_ret
        exact ⟨rfl, rfl⟩
      · rw [fitsR_yes 3 n m 9 h (by unfold lastR; rw [hf]; rfl)]
        have HF := hid hf
        clear hf
        go_enter Try.func58, Try.ntmps58
        go_wp2_with fail
        refine (datomic_any _ _).mono ?_
        rintro e w' ⟨rfl, rfl⟩
        rw [HF.out]
        go_wp2
        go_ret
        exact ⟨rfl, rfl⟩
    have e3 : (r == 3) = false := by simp [h3]
    rw [fitsR_yes r n m 10 h (by unfold lastR; rw [if_neg h2, if_neg h3])]
    clear h2 h3
    go_enter Try.func58, Try.ntmps58
    go_wp2
    go_ret
    exact ⟨rfl, rfl⟩
end Go.Proofs.Ytpknnmnknaaccaa.Insn
