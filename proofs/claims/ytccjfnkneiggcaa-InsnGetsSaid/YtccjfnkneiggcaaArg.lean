/-
  From a slice of bytes as the claim's form reads it to what the walks are told of it.
-/
import Derived.Test.YtccjfnkneiggcaaListA
import Derived.OpenShut
namespace Go.Proofs.Ytccjfnkneiggcaa.ListB
open Go.RowKit
theorem getD_taken (zs : List Int) (k i : Nat) (h : i < k) : (zs.take k).getD i 0 = zs.getD i 0 := by simp [List.getD_eq_getElem?_getD, h]
/-- From the numbers up to the capacity, as the claim's form reads them, to those up to the length. -/
theorem arg_of (w : World) (a : Option Addr) (len cap : Nat) (zs : List Int)
    (h : (a = none ∧ len = 0 ∧ cap = 0 ∧ zs = []) ∨ ∃ x, a = some x ∧ len ≤ cap ∧ cap ≤ maxLen ∧ zs.length = cap ∧ (∀ i, i < zs.length → w.cell? (x.add i) = some (.int .u8 (zs.getD i 0))) ∧ ∀ n ∈ zs, (Lit.int .u8 n).wf = true) :
    Arg w a len (zs.take len) ∧ len ≤ cap := by
  rcases h with ⟨rfl, rfl, rfl, rfl⟩ | ⟨x, rfl, hlc, _, hz, hc, hw⟩
  · exact ⟨⟨rfl, fun i => by simp, fun h => by omega⟩, Nat.le_refl _⟩
  · refine ⟨⟨by simp; omega, fun i => ?_, fun h0 => ?_⟩, hlc⟩
    · by_cases hi : i < (zs.take len).length
      · have hm : (zs.take len).getD i 0 ∈ zs := by
          rw [List.getD_eq_getElem?_getD, List.getElem?_eq_getElem hi]; exact List.mem_of_mem_take (List.getElem_mem hi)
        exact bounds_u8 (hw _ hm)
      · rw [List.getD_eq_getElem?_getD, List.getElem?_eq_none (by omega)]; simp
    · obtain ⟨b, off, rfl, hc'⟩ := ints_at hc (by omega)
      exact ⟨b, off, rfl, World.block_lt_of_cell? w _ (hc' 0 (by omega)), fun i hi => by rw [getD_taken _ _ _ hi]; exact hc' i (by omega)⟩
end Go.Proofs.Ytccjfnkneiggcaa.ListB
