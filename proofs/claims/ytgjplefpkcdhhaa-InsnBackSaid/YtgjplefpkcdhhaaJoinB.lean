/-
  Of a slice of instructions as the claim's form reads it: that a nil one has no capacity, and that its length is bounded by the reach.
-/
import Derived.Test.YtgjplefpkcdhhaaJoin
import Derived.SizedLaws
namespace Go.Proofs.Ytgjplefpkcdhhaa.Insn
open Go.RowKit Go.Proofs.Ytgjplefpkcdhhaa.Num Go.ChangeShapes Go.WideShapes Go.Deep
section
variable {H : Type} {enc : TypeId × Value → H} {w : World} {base : Nat} {spare : Nat → Bool} {held : Bool}
theorem open_insns_more {a : Option Addr} {len cap fuel : Nat} {d : DataW H} {p : List MemPlace} (h : DataW.trod enc Try.prog w base spare held fuel 31 [.slice a len cap] = some (d, p)) : (a = none → cap = 0) ∧ ((∃ es sp, d = .slice es sp ∧ es.length = len) ∨ len = 0) := by
  rcases open_slice Try.underlying31 h with ⟨hcs, _⟩ | ⟨ad, len', cap', m, n, D, Pl, hcs, _, hl, hm, hmm, hx, hi⟩
  · simp at hcs
    obtain ⟨rfl, rfl, rfl⟩ := hcs
    exact ⟨fun _ => rfl, Or.inr rfl⟩
  · simp at hcs
    obtain ⟨rfl, rfl, rfl⟩ := hcs
    refine ⟨(fun e => by cases e), Or.inl ⟨_, _, (Prod.mk.inj hx).1, by simp⟩⟩
theorem insns_small {a : Option Addr} {len cap : Nat} {d : DataW H} {p : List MemPlace} {ts : List TypeId} {ds : List (DataW H)} {j : Nat} (hsz : (DataW.weightsEach Try.prog ts ds).all (· ≤ reachBytes) = true) (ht : ts[j]? = some 31) (hd : ds[j]? = some d) (h : DataW.Trod enc Try.prog w base spare held 31 (.slice a len cap) d p) : (a = none → cap = 0) ∧ len ≤ 3518437208883 := by
  obtain ⟨fuel, hf⟩ := h
  obtain ⟨h1, h2⟩ := open_insns_more hf
  refine ⟨h1, ?_⟩
  rcases h2 with ⟨es, sp, rfl, hl⟩ | h0
  · have hr := sized_slice hsz ht hd Try.underlying31
    rw [show Try.prog.bytesOf 23 = 40 by kernel_rfl, show reachBytes = 140737488351232 by rfl] at hr
    omega
  · omega
end
end Go.Proofs.Ytgjplefpkcdhhaa.Insn
