/-
  What the kernel finds of exact: it is true of all tnums of three bits (two minutes). And TnumSays, told a count as a natural.
-/
import Derived.Test.YtpbhfpogbndljaaDoorRtX
import Derived.Test.YtpbhfpogbndljaaDoorRtS
namespace Go.Proofs.YtpbhfpogbndljaaDoor.Rt
open Go.RowKit Go.Proofs.YtpbhfpogbndljaaDoor.Num Go.Proofs.YtpbhfpogbndljaaDoor.Up Go.Proofs.YtpbhfpogbndljaaDoor.Tn
theorem at_all {F : Nat → Bool} {n k : Nat} (h : allTo F n = true) (hk : k < n) : F k = true := (allTo_iff F n).1 h k hk
set_option maxRecDepth 100000 in
theorem exact_all : allTo (fun i => allTo (fun j => exactB (kA (64 * i + j)) (kB (64 * i + j))) 64) 64 = true := by decide +kernel
theorem exact_of {k : Nat} (h : k < 4096) : exactB (P.mk (BitVec.ofNat 64 (k % 8)) (BitVec.ofNat 64 ((k / 8) % 8))) (P.mk (BitVec.ofNat 64 ((k / 64) % 8)) (BitVec.ofNat 64 (k / 512))) = true := by
  have h1 := at_all exact_all (show k / 64 < 64 by omega)
  have h2 := at_all h1 (show k % 64 < 64 by omega)
  have e : 64 * (k / 64) + k % 64 = k := Nat.div_add_mod k 64
  rw [e] at h2
  exact h2
theorem says_nat (a b : P) (v : BitVec 64) (j : Nat) (hj : j < 70) (w : World) (hT : Tab w) :
    Calls Tryd.prog 5 #[vU a, vU b, .int .u64 (tn v), .int .i64 ((j : Nat) : Int)] w fun e w' => e = .returned (.bool true) ∧ Below w.heap.size w w' := by
  have h := tnumSays a b v (BitVec.ofNat 64 j) w hT
  have e : ti (BitVec.ofNat 64 j) = ((j : Nat) : Int) := by
    unfold ti
    rw [BitVec.toInt_eq_toNat_of_lt (by rw [BitVec.toNat_ofNat]; omega), BitVec.toNat_ofNat, Nat.mod_eq_of_lt (by omega)]
  rw [e] at h
  exact h
end Go.Proofs.YtpbhfpogbndljaaDoor.Rt
