/-
  The contract of decl's features of a kind; when two declarations are alike; small facts.
-/
import Derived.Test.YtejcjjimhaokfaaDoorDcF
import Derived.Test.YtejcjjimhaokfaaDoorIf
import Derived.Deep.DeepCutAuto
namespace Go.Proofs.YtejcjjimhaokfaaDoor.Dcl
open Go.RowKit Go.Proofs.YtejcjjimhaokfaaDoor.Num Go.Proofs.YtejcjjimhaokfaaDoor.Up Go.Proofs.YtejcjjimhaokfaaDoor.Tn
def fe0 : Fe := ⟨0#64, false, false, false, false⟩
def feat2 (k : BitVec 64) : Fe × Bool := if 1 ≤ ti k ∧ ti k ≤ 10 then (feL.getD k.toNat fe0, true) else (fe0, false)
theorem feat2_no {k : BitVec 64} (h : ¬ (1 ≤ ti k ∧ ti k ≤ 10)) : feat2 k = (fe0, false) := if_neg h
theorem ti_is {k : BitVec 64} {n : Int} (h : ti k = n) : k = BitVec.ofInt 64 n := by
  unfold ti at h
  rw [← h, BitVec.ofInt_toInt]
theorem kind_cases (k : BitVec 64) (h : 1 ≤ ti k ∧ ti k ≤ 10) : k = 1#64 ∨ k = 2#64 ∨ k = 3#64 ∨ k = 4#64 ∨ k = 5#64 ∨ k = 6#64 ∨ k = 7#64 ∨ k = 8#64 ∨ k = 9#64 ∨ k = 10#64 := by
  have hk : ti k = 1 ∨ ti k = 2 ∨ ti k = 3 ∨ ti k = 4 ∨ ti k = 5 ∨ ti k = 6 ∨ ti k = 7 ∨ ti k = 8 ∨ ti k = 9 ∨ ti k = 10 := by omega
  rcases hk with e | e | e | e | e | e | e | e | e | e <;> (have := ti_is e; simp [this])
theorem feat_any (k : BitVec 64) (w : World) (hT : Tab w) :
    Calls Tryd.prog 25 #[.int .i64 (ti k)] w fun e w' => e = .returned (.tuple #[.agg #[.int .u64 (tn (((feat2 k).1).ops)), .bool (((feat2 k).1).words), .bool (((feat2 k).1).buckets), .bool (((feat2 k).1).spread), .bool (((feat2 k).1).inner)], .bool ((feat2 k).2)]) ∧ Below w.heap.size w w' := by
  by_cases h : 1 ≤ ti k ∧ ti k ≤ 10
  · rcases kind_cases k h with rfl | rfl | rfl | rfl | rfl | rfl | rfl | rfl | rfl | rfl
    · exact feat_1 w hT
    · exact feat_2 w hT
    · exact feat_3 w hT
    · exact feat_4 w hT
    · exact feat_5 w hT
    · exact feat_6 w hT
    · exact feat_7 w hT
    · exact feat_8 w hT
    · exact feat_9 w hT
    · exact feat_10 w hT
  · rw [feat2_no h]
    exact feat_no k w h
theorem nz_of {n : BitVec 64} (h : ltI n 1#64 = false) : (n == 0#64) = false := by
  have h' := of_decide_eq_false h
  rw [beq_eq_false_iff_ne]
  rintro rfl
  exact h' (by decide)
theorem nn_of {n : BitVec 64} (h : geI n 1#64 = true) : 0 ≤ ti n := by
  have h' := of_decide_eq_true h
  have : ti 1#64 = 1 := by decide
  omega
/-- How far: simp does not look behind it. -/
def shN (y : BitVec 64) : Nat := y.toNat
theorem shrUI (x y : BitVec 64) (h : 0 ≤ ti y) : tn x / 2 ^ (min (ti y).toNat 64) = tn (x >>> y.toNat) := by
  have e : ti y = tn y := by
    have := y.isLt
    unfold ti at h ⊢
    unfold tn
    rw [BitVec.toInt_eq_toNat_cond] at h ⊢
    split <;> rename_i h1
    · rfl
    · rw [if_neg h1] at h; omega
  rw [e]
  exact shrUU x y (tn_lo y)
theorem andIT (x y : BitVec 64) : bits .and .i64 (ti x) (ti y) = ti (x &&& y) := by
  have e : ∀ z : BitVec 64, BitVec.ofInt 64 (ti z) = z := fun z => by unfold ti; exact BitVec.ofInt_toInt
  have f : IntKind.i64.wrap ((x &&& y).toNat : Int) = ti (x &&& y) := toI64 _
  show IntKind.i64.wrap (((BitVec.ofInt 64 (ti x)) &&& (BitVec.ofInt 64 (ti y))).toNat : Int) = _
  rw [e, e]; exact f
/-- A declaration of a map. -/
structure Dc where
  kind : BitVec 64
  entries : BitVec 64
  words : BitVec 64
  buckets : BitVec 64
  inner : BitVec 64
def eqD (x y : Dc) : Bool := x.kind == y.kind && (x.entries == y.entries && (x.words == y.words && (x.buckets == y.buckets && x.inner == y.inner)))
theorem eqDT {α : Type} (X : Bool → α) (a0 a1 a2 a3 a4 b0 b1 b2 b3 b4 : BitVec 64) :
    (if ti a0 = ti b0 then (if ti a1 = ti b1 then (if ti a2 = ti b2 then (if ti a3 = ti b3 then (if ti a4 = ti b4 then X true else X false) else X false) else X false) else X false) else X false) = X (eqD ⟨a0, a1, a2, a3, a4⟩ ⟨b0, b1, b2, b3, b4⟩) := by
  unfold eqD
  simp only
  rw [← eqIT, ← eqIT, ← eqIT, ← eqIT, ← eqIT]
  simp only [show ∀ x y : Int, (x == y) = decide (x = y) from fun _ _ => rfl]
  by_cases h0 : ti a0 = ti b0 <;> by_cases h1 : ti a1 = ti b1 <;> by_cases h2 : ti a2 = ti b2 <;> by_cases h3 : ti a3 = ti b3 <;> by_cases h4 : ti a4 = ti b4 <;> simp [h0, h1, h2, h3, h4]
theorem eqD_iff (x y : Dc) : eqD x y = true ↔ x = y := by
  obtain ⟨a0, a1, a2, a3, a4⟩ := x
  obtain ⟨b0, b1, b2, b3, b4⟩ := y
  unfold eqD
  simp
end Go.Proofs.YtejcjjimhaokfaaDoor.Dcl
