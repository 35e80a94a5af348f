/-
  The walks of TnumJoins and TnumBits, of numbers as the claim's form reads them.
-/
import Derived.Test.YtlpddekfbkafaaaTnG
import Derived.Test.YtlpddekfbkafaaaTnJ
namespace Go.Proofs.Ytlpddekfbkafaaa.Tn
open Go.RowKit Go.Proofs.Ytlpddekfbkafaaa.Num
theorem joinsI (a b c : T) (n : Int) (h : (Lit.int .u64 n).wf = true) (w : World) :
    Calls Try.prog 3 #[a.val, b.val, c.val, .int .u64 n] w fun e w' => e = .returned (.bool true) ∧ Below w.heap.size w w' := by
  rw [u64_tn h]; exact tnumJoins a b c _ w
theorem bitsI (a b : T) (n m : Int) (h : (Lit.int .u64 n).wf = true) (k : (Lit.int .u64 m).wf = true) (w : World) :
    Calls Try.prog 4 #[a.val, b.val, .int .u64 n, .int .u64 m] w fun e w' => e = .returned (.bool true) ∧ Below w.heap.size w w' := by
  rw [u64_tn h, u64_tn k]; exact tnumBits a b _ _ w
end Go.Proofs.Ytlpddekfbkafaaa.Tn
