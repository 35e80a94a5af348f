/-
  The walk of the law WordBack, for whatever slice.
-/
import Derived.Test.YtdkaccfombbdkaaLawF1
import Derived.Test.YtdkaccfombbdkaaLawF2
import Derived.Test.YtdkaccfombbdkaaLawF4
import Derived.Test.YtdkaccfombbdkaaLawF8
namespace Go.Proofs.Ytdkaccfombbdkaa.Law
open Go.RowKit Go.Proofs.Ytdkaccfombbdkaa.Num Go.Proofs.Ytdkaccfombbdkaa.ListB Go.Proofs.Ytdkaccfombbdkaa.Bytes
theorem wordBack (a : Option Addr) (len cap : Nat) (zs : List Int) (i s v : Int) (w : World) (h : Arg w a len zs) (hl : len ≤ 140737488355328) (hlc : len ≤ cap) (hcm : cap ≤ 9223372036854775807) (v0 : 0 ≤ v) (v1 : v ≤ 18446744073709551615) :
    Calls Try.prog 8 #[.slice a len cap, .int .i64 i, .int .i64 s, .int .u64 v] w fun e w' => e = .returned (.bool true) ∧ Below w.heap.size w w' := by
  cases hf : fitsB len i s
  · exact back_no_walk a len cap i s v w hl (copy_of a len cap zs w h hl) hf
  · obtain ⟨hs, i0, i1⟩ := fitsB_size hf
    obtain ⟨n, rfl⟩ := Int.eq_ofNat_of_zero_le i0
    obtain ⟨b, off, rfl, hb, hc⟩ := h.2.2 (by omega)
    rcases hs with rfl | rfl | rfl | rfl
    · exact back_yes_1 b off len cap n zs v w hl hlc hcm h.1 h.2.1 hb hc (by omega) v0 v1
    · exact back_yes_2 b off len cap n zs v w hl hlc hcm h.1 h.2.1 hb hc (by omega) v0 v1
    · exact back_yes_4 b off len cap n zs v w hl hlc hcm h.1 h.2.1 hb hc (by omega) v0 v1
    · exact back_yes_8 b off len cap n zs v w hl hlc hcm h.1 h.2.1 hb hc (by omega) v0 v1
end Go.Proofs.Ytdkaccfombbdkaa.Law
