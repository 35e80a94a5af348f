/-
  Keys have one order; where buckets stand.
-/
import Derived.Test.YtejcjjimhaokfaaDoorDcE
namespace Go.Proofs.YtejcjjimhaokfaaDoor.Dcl
open Go.RowKit Go.Proofs.YtejcjjimhaokfaaDoor.Num Go.Proofs.YtejcjjimhaokfaaDoor.Up Go.Proofs.YtejcjjimhaokfaaDoor.Tn
theorem ti_eq {x y : BitVec 64} : (x != y) = true ↔ ti x ≠ ti y := by
  rw [bne_iff_ne]
  exact ⟨fun h e => h (BitVec.eq_of_toInt_eq e), fun h e => h (by rw [e])⟩
theorem ahead_iff (d : Dc) (a b : BitVec 64) : decl_Ahead d a b = true ↔ (((feat2 d.kind).1.spread = true ∧ (ti (decl_Bucket a d.buckets) < ti (decl_Bucket b d.buckets) ∨ (ti (decl_Bucket a d.buckets) = ti (decl_Bucket b d.buckets) ∧ tn a < tn b))) ∨ ((feat2 d.kind).1.spread = false ∧ tn a < tn b)) := by
  unfold decl_Ahead
  generalize decl_Bucket a d.buckets = p
  generalize decl_Bucket b d.buckets = q
  cases (feat2 d.kind).1.spread
  · simp [ltU]
  · cases h : p != q
    · have e : ti p = ti q := by
        cases Classical.em (ti p = ti q) with
        | inl e => exact e
        | inr e => rw [ti_eq.2 e] at h; cases h
      simp [e, ltU]
    · have e := ti_eq.1 h
      simp [ltI, e]
theorem ahead_flip {d : Dc} {a b : BitVec 64} (h : decl_Ahead d a b = true) : decl_Ahead d b a = false ∧ (a != b) = true := by
  rw [ahead_iff] at h
  constructor
  · cases e : decl_Ahead d b a
    · rfl
    · rw [ahead_iff] at e
      rcases h with ⟨h1, h2⟩ | ⟨h1, h2⟩ <;> rcases e with ⟨e1, e2⟩ | ⟨e1, e2⟩ <;> first | (rw [h1] at e1; cases e1; done) | omega
  · rw [bne_iff_ne]
    rintro rfl
    rcases h with ⟨_, h2⟩ | ⟨_, h2⟩ <;> omega
theorem ahead_none {d : Dc} {a b : BitVec 64} (h : decl_Ahead d a b = false) (hn : (a != b) = true) : decl_Ahead d b a = true := by
  have hne : tn a ≠ tn b := fun e => (bne_iff_ne.1 hn) (tn_inj e)
  cases e : decl_Ahead d b a
  · have h' : ¬ decl_Ahead d a b = true := by rw [h]; decide
    have e' : ¬ decl_Ahead d b a = true := by rw [e]; decide
    rw [ahead_iff] at h' e'
    cases hs : (feat2 d.kind).1.spread <;> rw [hs] at h' e' <;> simp at h' e' <;> omega
  · rfl
theorem ahead_self (d : Dc) (a : BitVec 64) : decl_Ahead d a a = false := by
  cases e : decl_Ahead d a a
  · rfl
  · rw [ahead_iff] at e
    rcases e with ⟨_, h2⟩ | ⟨_, h2⟩ <;> omega
theorem ahead_trans {d : Dc} {a b c : BitVec 64} (h : decl_Ahead d a b = true) (k : decl_Ahead d b c = true) : decl_Ahead d a c = true := by
  rw [ahead_iff] at h k ⊢
  rcases h with ⟨h1, h2⟩ | ⟨h1, h2⟩ <;> rcases k with ⟨k1, k2⟩ | ⟨k1, k2⟩
  · exact Or.inl ⟨h1, by omega⟩
  · rw [h1] at k1; cases k1
  · rw [h1] at k1; cases k1
  · exact Or.inr ⟨h1, by omega⟩
theorem bucket_in (x n : BitVec 64) (h : geI n 1#64 = true) : 0 ≤ ti (decl_Bucket x n) ∧ ti (decl_Bucket x n) < ti n := by
  have h' := of_decide_eq_true h
  rw [show ti 1#64 = 1 from by decide] at h'
  have hlt : ltI n 1#64 = false := by
    refine decide_eq_false ?_
    rw [show ti 1#64 = 1 from by decide]; omega
  unfold decl_Bucket
  rw [hlt]
  simp only [cond_false]
  generalize (x * 11400714819323198485#64) >>> (32#64).toNat = y
  have e : ti n = (n.toNat : Int) ∧ n.toNat < 9223372036854775808 := by
    have := n.isLt
    have h2 := h'
    unfold ti at h2 ⊢
    rw [BitVec.toInt_eq_toNat_cond] at h2 ⊢
    split <;> rename_i h1
    · exact ⟨rfl, by omega⟩
    · rw [if_neg h1] at h2; omega
  have hm : (y % n).toNat < n.toNat := by
    rw [BitVec.toNat_umod]
    exact Nat.mod_lt _ (by omega)
  have e2 : ti (y % n) = ((y % n).toNat : Int) := by
    unfold ti
    rw [BitVec.toInt_eq_toNat_cond, if_pos (by omega)]
  omega
theorem hash_of {k n : BitVec 64} (h : (bif (k == 4#64) then geI n 1#64 else false) = true) : k = 4#64 ∧ geI n 1#64 = true := by
  cases e : k == 4#64
  · rw [e] at h; cases h
  · rw [e] at h; exact ⟨by simpa using e, h⟩
theorem hash_lo {k n : BitVec 64} (x : BitVec 64) (h : (bif (k == 4#64) then geI n 1#64 else false) = true) : ltI (decl_Bucket x n) 0#64 = false := by
  have := (bucket_in x n (hash_of h).2).1
  refine decide_eq_false ?_
  rw [show ti 0#64 = 0 from by decide]; omega
theorem hash_hi {k n : BitVec 64} (x : BitVec 64) (h : (bif (k == 4#64) then geI n 1#64 else false) = true) : geI (decl_Bucket x n) n = false := by
  have := (bucket_in x n (hash_of h).2).2
  refine decide_eq_false ?_
  omega
theorem hash_lt {d : Dc} {a b : BitVec 64} (h : (bif (d.kind == 4#64) then geI d.buckets 1#64 else false) = true) (ha : decl_Ahead d a b = false) : ltI (decl_Bucket a d.buckets) (decl_Bucket b d.buckets) = false := by
  refine decide_eq_false fun hl => ?_
  have : decl_Ahead d a b = true := by
    rw [ahead_iff, (hash_of h).1]
    exact Or.inl ⟨by decide, Or.inl hl⟩
  rw [ha] at this; cases this
theorem hash_eq {d : Dc} {a b : BitVec 64} {v : Bool} (h : (bif (d.kind == 4#64) then geI d.buckets 1#64 else false) = true) (ha : decl_Ahead d a b = v) : (bif ((decl_Bucket a d.buckets) == (decl_Bucket b d.buckets)) then (v != (ltU a b)) else false) = false := by
  cases e : (decl_Bucket a d.buckets) == (decl_Bucket b d.buckets)
  · rfl
  · have e' : decl_Bucket a d.buckets = decl_Bucket b d.buckets := by simpa using e
    rw [← ha]
    unfold decl_Ahead
    rw [e', (hash_of h).1]
    simp [show (feat2 4#64).1.spread = true from by decide]
end Go.Proofs.YtejcjjimhaokfaaDoor.Dcl
