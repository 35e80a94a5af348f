/-
  The walk of the law WordBack, for whatever slice.
-/
import Derived.Test.YtdkaccfombbdkaaLawF1
import Derived.OpenShut
import Derived.Test.YtdkaccfombbdkaaLawF2
import Derived.Test.YtdkaccfombbdkaaLawF4
import Derived.Test.YtdkaccfombbdkaaLawF8
namespace Go.Proofs.Ytdkaccfombbdkaa.Law
open Go.RowKit Go.Proofs.Ytdkaccfombbdkaa.Num Go.Proofs.Ytdkaccfombbdkaa.ListB Go.Proofs.Ytdkaccfombbdkaa.Bytes
theorem wordBack (a : Option Addr) (len cap : Nat) (zs : List Int) (i s v : Int) (w : World) (h : Arg w a len zs) (hl : len ≤ 140737488355328) (hlc : len ≤ cap) (hcm : cap ≤ 9223372036854775807) (v0 : 0 ≤ v) (v1 : v ≤ 18446744073709551615) :
    Calls Try.prog 8 #[.slice a len cap, .int .i64 i, .int .i64 s, .int .u64 v] w fun e w' => e = .returned (.bool true) ∧ Below w.heap.size w w' := by
  cases hf : fitsB len i s
  · exact back_no_walk a len cap i s v w hl (copy_of a len cap zs w h hl) hf
  · obtain ⟨hs, i0, i1⟩ := fitsB_size hf
    obtain ⟨n, rfl⟩ := Int.eq_ofNat_of_zero_le i0
    obtain ⟨b, off, rfl, hb, hc⟩ := h.2.2 (by omega)
    rcases hs with rfl | rfl | rfl | rfl
    · exact back_yes_1 b off len cap n zs v w hl hlc hcm h.1 h.2.1 hb hc (by omega) v0 v1
    · exact back_yes_2 b off len cap n zs v w hl hlc hcm h.1 h.2.1 hb hc (by omega) v0 v1
    · exact back_yes_4 b off len cap n zs v w hl hlc hcm h.1 h.2.1 hb hc (by omega) v0 v1
    · exact back_yes_8 b off len cap n zs v w hl hlc hcm h.1 h.2.1 hb hc (by omega) v0 v1
/-- From the numbers up to the capacity, as the claim's form reads them, to those up to the length. -/
theorem arg_of (w : World) (a : Option Addr) (len cap : Nat) (zs : List Int)
    (h : (a = none ∧ len = 0 ∧ cap = 0 ∧ zs = []) ∨ ∃ x, a = some x ∧ len ≤ cap ∧ cap ≤ maxLen ∧ zs.length = cap ∧ (∀ i, i < zs.length → w.cell? (x.add i) = some (.int .u8 (zs.getD i 0))) ∧ ∀ n ∈ zs, (Lit.int .u8 n).wf = true) :
    Arg w a len (zs.take len) ∧ len ≤ cap := by
  rcases h with ⟨rfl, rfl, rfl, rfl⟩ | ⟨x, rfl, hlc, _, hz, hc, hw⟩
  · exact ⟨⟨rfl, fun i => by simp, fun h => by omega⟩, Nat.le_refl _⟩
  · refine ⟨⟨by simp; omega, fun i => ?_, fun h0 => ?_⟩, hlc⟩
    · by_cases hi : i < (zs.take len).length
      · have hm : (zs.take len).getD i 0 ∈ zs := by
          rw [List.getD_eq_getElem?_getD, List.getElem?_eq_getElem hi]; exact List.mem_of_mem_take (List.getElem_mem hi)
        exact bounds_u8 (hw _ hm)
      · rw [List.getD_eq_getElem?_getD, List.getElem?_eq_none (by omega)]; simp
    · obtain ⟨b, off, rfl, hc'⟩ := ints_at hc (by omega)
      exact ⟨b, off, rfl, World.block_lt_of_cell? w _ (hc' 0 (by omega)), fun i hi => by rw [getD_take _ _ _ hi]; exact hc' i (by omega)⟩
end Go.Proofs.Ytdkaccfombbdkaa.Law
