/-
  Contracts of the document's rows of instructions: has, Atomic, Class, Size.
-/
import Derived.Test.YtpknnmnknaaccaaRefFind
namespace Go.Proofs.Ytpknnmnknaaccaa.Insn
open Go.RowKit Go.Proofs.Ytpknnmnknaaccaa.Num
def hasB (s : ByteArray) (c : Int) : Bool := s.data.toList.any (fun b => (b.toNat : Int) == c)
theorem hasB_no (s : ByteArray) (c : Int) (h : ∀ j (hj : j < s.size), ((s[j].toNat : Int) == c) = false) : hasB s c = false := by
  unfold hasB
  rw [List.any_eq_false]
  intro b hb
  obtain ⟨j, hj, rfl⟩ := List.getElem_of_mem hb
  have e := h j (by simpa using hj)
  intro hc
  have hc' : (((s[j]'(by simpa using hj)).toNat : Int) == c) = true := hc
  rw [e] at hc'; cases hc'
theorem hasB_yes (s : ByteArray) (c : Int) (j : Nat) (hj : j < s.size) (h : ((s[j].toNat : Int) == c) = true) : hasB s c = true := by
  unfold hasB
  rw [List.any_eq_true]
  exact ⟨s[j], by show s.data[j] ∈ s.data.toList; exact Array.getElem_mem_toList hj, h⟩
def atomIs (m : Int) : Bool := m == 0 || m == 64 || m == 80 || m == 160 || m == 1 || m == 65 || m == 81 || m == 161 || m == 225 || m == 241
def atomF (m : Int) : Bool := m == 1 || m == 65 || m == 81 || m == 161 || m == 225 || m == 241
theorem tm8 (a : Int) : (0 ≤ a.tmod 8 → a.tmod 8 = a % 8 ∧ a.tdiv 8 = a / 8) ∧ (a.tmod 8 < 0 → a.tmod 8 + 8 = a % 8 ∧ a.tdiv 8 - 1 = a / 8) ∧ -8 < a.tmod 8 ∧ a.tmod 8 < 8 := by
  have h := Int.tmod_def a 8
  have e := @Int.tmod_eq_emod a 8
  have d := Int.mul_ediv_add_emod a 8
  split at e <;> omega
theorem tm4 (a : Int) : (0 ≤ a.tmod 4 → a.tmod 4 = a % 4) ∧ (a.tmod 4 < 0 → a.tmod 4 + 4 = a % 4) ∧ -4 < a.tmod 4 ∧ a.tmod 4 < 4 := by
  have e := @Int.tmod_eq_emod a 4
  split at e <;> omega
def sizeR (op : Int) : Int := if op / 8 % 4 = 0 then 4 else if op / 8 % 4 = 1 then 2 else if op / 8 % 4 = 2 then 1 else 8
end Go.Proofs.Ytpknnmnknaaccaa.Insn
