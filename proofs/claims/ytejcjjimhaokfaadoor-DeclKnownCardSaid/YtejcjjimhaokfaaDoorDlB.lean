/-
  Declarations as bit vectors, in lists; where an Inner stands.
-/
import Derived.Test.YtejcjjimhaokfaaDoorDlA
import Derived.Test.YtejcjjimhaokfaaDoorDcA
namespace Go.Proofs.YtejcjjimhaokfaaDoor.Dcl
open Go.RowKit Go.Proofs.YtejcjjimhaokfaaDoor.Num Go.Proofs.YtejcjjimhaokfaaDoor.Up Go.Proofs.YtejcjjimhaokfaaDoor.Tn
def Dc.di (d : Dc) : In := ⟨ti d.kind, ti d.entries, ti d.words, ti d.buckets, ti d.inner⟩
def dc0 : Dc := ⟨0#64, 0#64, 0#64, 0#64, 0#64⟩
theorem map_get (L : List Dc) (k : Nat) (h : k < L.length) : (L.map Dc.di)[k]? = some (L.getD k dc0).di := by
  rw [List.getElem?_map, List.getElem?_eq_getElem h, List.getD_eq_getElem?_getD, List.getElem?_eq_getElem h]
  rfl
def lenV (n : Nat) : BitVec 64 := BitVec.ofNat 64 n
theorem lenT {n : Nat} (h : n ≤ 1000) : ti (lenV n) = (n : Int) := by
  unfold lenV ti
  rw [BitVec.toInt_eq_toNat_cond, BitVec.toNat_ofNat, Nat.mod_eq_of_lt (by omega), if_pos (by omega)]
theorem not_f {b : Bool} (h : (!b) = false) : b = true := by cases b <;> simp_all
theorem pos_nat {x : BitVec 64} (h : 0 ≤ ti x) : ti x = (x.toNat : Int) := by
  have := x.isLt
  unfold ti at h ⊢
  rw [BitVec.toInt_eq_toNat_cond] at h ⊢
  split <;> rename_i h1
  · rfl
  · rw [if_neg h1] at h; omega
theorem ix_of {n : BitVec 64} {len : Nat} (h0 : 1 ≤ ti n) (h1 : ti n ≤ len) : ∃ k : Nat, n.toNat - 1 = k ∧ ti n = (k : Int) + 1 ∧ k < len := by
  have e := pos_nat (x := n) (by omega)
  exact ⟨n.toNat - 1, rfl, by omega, by omega⟩
theorem ix_in {f : Fe} {n : BitVec 64} {len : Nat} (hl : len ≤ 1000) (h : decl_features_innerRight f n (lenV len) = true) (hf : f.inner = true) : ∃ k : Nat, n.toNat - 1 = k ∧ ti n = (k : Int) + 1 ∧ k < len := by
  unfold decl_features_innerRight at h
  rw [hf] at h
  simp only [cond_true] at h
  cases h0 : geI n 1#64
  · rw [h0] at h; cases h
  · rw [h0] at h
    have h0' := of_decide_eq_true h0
    have h1' := of_decide_eq_true (show decide (ti n ≤ ti (lenV len)) = true from h)
    rw [lenT hl] at h1'
    rw [show ti 1#64 = 1 from by decide] at h0'
    exact ix_of (by omega) h1'
theorem ix_out {n : BitVec 64} {len : Nat} (hl : len ≤ 1000) (h : (bif (ltI n 1#64) then true else (gtI n (lenV len))) = false) : ∃ k : Nat, n.toNat - 1 = k ∧ ti n = (k : Int) + 1 ∧ k < len := by
  cases h0 : ltI n 1#64
  · rw [h0] at h
    have h0' := of_decide_eq_false h0
    have h1' := of_decide_eq_false (show decide (ti n > ti (lenV len)) = false from h)
    rw [lenT hl] at h1'
    rw [show ti 1#64 = 1 from by decide] at h0'
    exact ix_of (by omega) (by omega)
  · rw [h0] at h; cases h
end Go.Proofs.YtejcjjimhaokfaaDoor.Dcl
