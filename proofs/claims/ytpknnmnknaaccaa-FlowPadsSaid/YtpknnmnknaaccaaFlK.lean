/-
  Laws for regions that draw and hold calls whose answers lie in new memory: either call may come first.
-/
import Derived.Test.YtpknnmnknaaccaaUp
import Derived.Test.YtpknnmnknaaccaaFlJ
import Derived.Deep.DeepCutAuto
namespace Go.Proofs.Ytpknnmnknaaccaa.Up
open Go.RowKit
section
variable {P : Program} {ops : Array Oper} {Q : Exit → Act → World → Prop} {md : Region.Mode}
/-- A call of whose answer R is known. -/
theorem step_call_as {i d : Nat} {oi : Oper} {f : FuncId} {args : Array Value} {n : Nat} {listed : Array Bool} {S : World → Prop} {l : List Value} {ds : List Deferred} (hU : Ups S) (hi : ops[i]? = some oi) (hd : oi.dst = some d)
    (hw : Region.wanted oi (yielded ops l.toArray) = true) (R : Value → World → Prop) (hR : ∀ v, Ups (R v))
    (he : ∀ w, S w → (execOp (Act.mk l.toArray ds).eval oi).run P w = .ok (.enter f args) w)
    (hc : ∀ w, S w → Calls P f args w fun e w' => ∃ v, e = .returned v ∧ R v w' ∧ Below w.heap.size w w')
    (h : ∀ v, Any P md ops Q n (listed.setIfInBounds i true) (fun x => S x ∧ R v x) ⟨(l.set d v).toArray, ds⟩) : Step P md ops Q n listed S ⟨l.toArray, ds⟩ i := by
  intro w hS
  unfold wpOp
  simp only [hi, hw, if_true]
  refine .inl ?_
  unfold Oper.wp
  rw [he w hS, Oper.upon_enter]
  refine Calls.mono (hc w hS) fun e w' hr => ?_
  obtain ⟨v, rfl, hr, hb⟩ := hr
  simp only [hd, put_some]
  exact ⟨fun x => S x ∧ R v x, ups_and hU (hR v), fun _ h => h.1, ⟨hU w w' hS hb, hr⟩, h v⟩
end
end Go.Proofs.Ytpknnmnknaaccaa.Up
