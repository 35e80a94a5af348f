/-
  From a slice of bytes as the claim's form reads it to what the walks are told of it.
-/
import Derived.Test.YtccjfnkneiggcaaArg
import Derived.OpenShut
import Derived.Deep.Slices
namespace Go.Proofs.Ytccjfnkneiggcaa.Insn
open Go.RowKit Go.Proofs.Ytccjfnkneiggcaa.Num Go.Proofs.Ytccjfnkneiggcaa.ListB Go.ChangeShapes Go.WideShapes Go.Deep
theorem open_bytes {H : Type} {enc : TypeId × Value → H} {w : World} {base : Nat} {a : Option Addr} {len cap fuel : Nat} {y : DataW H × List MemPlace} (h : DataW.trod enc Try.prog w base (fun _ => true) true fuel 33 [.slice a len cap] = some y) : ∃ zs, Arg w a len zs ∧ len ≤ cap ∧ cap ≤ 9223372036854775807 ∧ (a = none → cap = 0) := by
  rcases open_ints Try.underlying33 Try.underlying5 (by kernel_rfl) h with ⟨hcs, _⟩ | ⟨x, l, c, zs, hcs, _, hl, hm, hz, hx, hcell, hwz⟩
  · simp at hcs
    obtain ⟨rfl, rfl, rfl⟩ := hcs
    have t := arg_of w none 0 0 [] (.inl ⟨rfl, rfl, rfl, rfl⟩)
    exact ⟨_, t.1, Nat.le_refl _, by omega, fun _ => rfl⟩
  · simp at hcs
    obtain ⟨rfl, rfl, rfl⟩ := hcs
    have hz' : zs.length = cap := by simpa using hz
    have t := arg_of w (some x) len cap zs (.inr ⟨_, rfl, hl, hm, hz', hcell, hwz⟩)
    exact ⟨_, t.1, t.2, by unfold maxLen at hm; omega, fun e => by cases e⟩
end Go.Proofs.Ytccjfnkneiggcaa.Insn
