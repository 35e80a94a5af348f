/-
  Contracts of the kit's lists of bytes: SameBytes.
-/
import Derived.Test.YtejcjjimhaokfaaDoorListA
namespace Go.Proofs.YtejcjjimhaokfaaDoor.ListB
open Go.RowKit Go.Proofs.YtejcjjimhaokfaaDoor.Num
def SamePost (r : Bool) (w : World) (e : Ending) (w' : World) : Prop := e = .returned (.bool r) ∧ ∃ n, w' = w.drewN n
theorem below_drewN {B : Nat} {a w : World} (h : Below B a w) (n : Nat) : Below B a (w.drewN n) := ⟨h.os, h.tape, h.output, h.size, h.block⟩
theorem ext_list (za zb : List Int) (n : Nat) (h1 : za.length = n) (h2 : zb.length = n) (h : ∀ j, j < n → za.getD j 0 = zb.getD j 0) : za = zb := by
  apply List.ext_getElem (by omega)
  intro j hj hj'
  have := h j (by omega)
  simpa [List.getD_eq_getElem?_getD, hj, hj'] using this
end Go.Proofs.YtejcjjimhaokfaaDoor.ListB
