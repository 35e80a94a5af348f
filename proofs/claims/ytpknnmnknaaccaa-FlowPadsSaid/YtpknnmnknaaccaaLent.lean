/-
  Contracts of the kit's lists of bytes: what is lent, and looked at again.
-/
import Derived.Test.YtpknnmnknaaccaaListB
namespace Go.Proofs.Ytpknnmnknaaccaa.ListB
open Go.RowKit Go.Proofs.Ytpknnmnknaaccaa.Num
def marks : List Int := [201, 208, 215, 222, 229]
theorem marks_get : ∀ k : Fin 5, marks.getD k.val 0 = 201 + 7 * (k.val : Int) := by decide
theorem marks_bd (i : Nat) : 0 ≤ marks.getD i 0 ∧ marks.getD i 0 ≤ 255 := by
  by_cases h : i < 5
  · rw [marks_get ⟨i, h⟩]; simp only; omega
  · rw [List.getD_eq_getElem?_getD, List.getElem?_eq_none (by simp [marks]; omega)]; simp
/-- A list of bytes that is the call's own. -/
def OwnPost (w : World) (len : Nat) (zs : List Int) (e : Ending) (w' : World) : Prop :=
  ∃ v, e = .returned v ∧ w'.ownsRow w.heap.size 5 1 v len (V zs) ∧ Below w.heap.size w w'
theorem V_append (a b : List Int) : V (a ++ b) = V a ++ V b := by unfold V; rw [List.map_append]
theorem marks_snoc (zs : List Int) (k : Nat) (h : k < 5) : V (zs ++ marks.take k) ++ [.int .u8 (201 + 7 * (k : Int))] = V (zs ++ marks.take (k + 1)) := by
  have e := take_snoc marks k h
  rw [marks_get ⟨k, h⟩] at e
  rw [V_append, V_append, List.append_assoc, ← e]
theorem getD_left (a b : List Int) (j : Nat) (h : j < a.length) : (a ++ b).getD j 0 = a.getD j 0 := by rw [List.getD_eq_getElem?_getD, List.getD_eq_getElem?_getD, List.getElem?_append_left h]
theorem getD_right (a b : List Int) (j : Nat) : (a ++ b).getD (a.length + j) 0 = b.getD j 0 := by rw [List.getD_eq_getElem?_getD, List.getD_eq_getElem?_getD, List.getElem?_append_right (by omega), Nat.add_sub_cancel_left]
end Go.Proofs.Ytpknnmnknaaccaa.ListB
