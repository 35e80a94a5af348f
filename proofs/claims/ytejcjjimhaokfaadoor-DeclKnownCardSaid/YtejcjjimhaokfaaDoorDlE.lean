/-
  A declaration: the program finds what the document finds. The first error of a list.
-/
import Derived.Test.YtejcjjimhaokfaaDoorDlC
import Derived.Test.YtejcjjimhaokfaaDoorDlD
namespace Go.Proofs.YtejcjjimhaokfaaDoor.Dcl
open Go.RowKit Go.Proofs.YtejcjjimhaokfaaDoor.Num Go.Proofs.YtejcjjimhaokfaaDoor.Up Go.Proofs.YtejcjjimhaokfaaDoor.Tn
def inP (n m : BitVec 64) : Bool := (bif geI n 1#64 then leI n m else false)
theorem geI_not (n m : BitVec 64) : geI n m = !(ltI n m) := by
  unfold geI ltI
  rw [← decide_not]
  exact decide_eq_decide.2 (by omega)
theorem leI_not (n m : BitVec 64) : leI n m = !(gtI n m) := by
  unfold leI gtI
  rw [← decide_not]
  exact decide_eq_decide.2 (by omega)
theorem two_hundred (n : BitVec 64) (h : inP n 32#64 = true) : ∃ k : Fin 33, n = BitVec.ofNat 64 k.val ∧ 1 ≤ k.val := by
  unfold inP at h
  cases h0 : geI n 1#64
  · rw [h0] at h; cases h
  · rw [h0] at h
    have h0' := of_decide_eq_true h0
    have h1' := of_decide_eq_true (show decide (ti n ≤ ti 32#64) = true from h)
    rw [show ti 1#64 = 1 from by decide] at h0'
    rw [show ti 32#64 = 32 from by decide] at h1'
    have e := pos_nat (x := n) (by omega)
    refine ⟨⟨n.toNat, by omega⟩, ?_, by show 1 ≤ n.toNat; omega⟩
    apply BitVec.eq_of_toNat_eq
    rw [BitVec.toNat_ofNat]
    show n.toNat = n.toNat % 2 ^ 64
    have := n.isLt
    omega
theorem power_all : ∀ k : Fin 33, 1 ≤ k.val → ref_power (BitVec.ofNat 64 k.val) = (bits_OnesCount64 (BitVec.ofNat 64 k.val) == 1#64) := by decide +kernel
theorem power_in {n : BitVec 64} (h : inP n 32#64 = false) : ref_power n = false := by
  cases e : ref_power n
  · rfl
  · have hn : n = 1#64 ∨ n = 2#64 ∨ n = 4#64 ∨ n = 8#64 ∨ n = 16#64 ∨ n = 32#64 := by
      unfold ref_power at e
      cases h1 : n == 1#64 <;> cases h2 : n == 2#64 <;> cases h3 : n == 4#64 <;> cases h4 : n == 8#64 <;> cases h5 : n == 16#64 <;> cases h6 : n == 32#64 <;> simp_all
    rcases hn with rfl | rfl | rfl | rfl | rfl | rfl <;> exact absurd h (by decide)
theorem power_is (n : BitVec 64) : ref_power n = (bif inP n 32#64 then (bits_OnesCount64 n == 1#64) else false) := by
  cases h : inP n 32#64
  · rw [power_in h]; rfl
  · obtain ⟨k, rfl, hk⟩ := two_hundred n h
    rw [power_all k hk]; rfl
theorem power_ne {n : BitVec 64} (h : ref_power n = true) : (n != 0#64) = true := by
  cases e : (n != 0#64)
  · have : n = 0#64 := by simpa using e
    subst this
    exact absurd h (by decide)
  · rfl
/-- Of a kind that there is: what its words, its buckets, its maps may be. -/
theorem kinds_all (k : BitVec 64) (h : 1 ≤ ti k ∧ ti k ≤ 10) : (feat2 k).2 = true ∧ (bif (bif (k == 3#64) then true else (k == 6#64)) then true else (k == 7#64)) = (feat2 k).1.words ∧ (bif (bif (k == 4#64) then true else (k == 8#64)) then true else (k == 10#64)) = (feat2 k).1.buckets ∧ (bif ltI k 1#64 then true else gtI k 10#64) = false := by
  rcases kind_cases k h with rfl | rfl | rfl | rfl | rfl | rfl | rfl | rfl | rfl | rfl <;> decide +kernel
theorem inner_is (k : BitVec 64) : (bif (k == 9#64) then true else (k == 10#64)) = (feat2 k).1.inner := by
  by_cases h : 1 ≤ ti k ∧ ti k ≤ 10
  · rcases kind_cases k h with rfl | rfl | rfl | rfl | rfl | rfl | rfl | rfl | rfl | rfl <;> decide +kernel
  · rw [feat2_no h, kind_no h 9#64 (by decide) (by decide), kind_no h 10#64 (by decide) (by decide)]
    rfl
theorem kind_out {k : BitVec 64} (h : ¬ (1 ≤ ti k ∧ ti k ≤ 10)) : (bif ltI k 1#64 then true else gtI k 10#64) = true := by
  have e1 : ti 1#64 = 1 := by decide
  have e2 : ti 10#64 = 10 := by decide
  cases h1 : ltI k 1#64
  · have h1' := of_decide_eq_false h1
    exact decide_eq_true (show ti k > ti 10#64 by omega)
  · rfl
theorem one_eq (n : BitVec 64) : (bif ltI n 1#64 then true else gtI n 1#64) = !(n == 1#64) := by
  have e1 : ti 1#64 = 1 := by decide
  cases h : n == 1#64
  · have hne : n ≠ 1#64 := by simpa using h
    cases h1 : ltI n 1#64
    · have h1' := of_decide_eq_false h1
      have : ti n ≠ 1 := fun e => hne (ti_is e)
      exact decide_eq_true (show ti n > ti 1#64 by omega)
    · rfl
  · obtain rfl : n = 1#64 := by simpa using h
    rfl
theorem pick_all (a1 a2 a3 a5 okW okB rB fi a8 a9 i0 q : Bool) (hW : okW = !(bif a3 then true else a5)) (hB : rB = !okB) :
    (bif (!true) then (1#64) else (bif (!(bif (!a1) then (!a2) else false)) then (1#64) else (bif (!okW) then (1#64) else (bif (!okB) then (1#64) else (bif (!(bif fi then (bif (!a8) then (!a9) else false) else i0)) then (1#64) else (bif fi then (bif q then 14#64 else 0#64) else 0#64))))))
    = (bif (bif (bif (bif (bif false then true else a1) then true else a2) then true else a3) then true else a5) then (1#64) else (bif rB then (1#64) else (bif (!fi) then (bif (!i0) then (1#64) else (0#64)) else (bif (bif a8 then true else a9) then (1#64) else (bif q then 14#64 else 0#64))))) := by
  subst hW hB
  cases a1 <;> cases a2 <;> cases a3 <;> cases a5 <;> cases okB <;> cases fi <;> cases a8 <;> cases a9 <;> cases i0 <;> cases q <;> rfl
theorem buckets_all (fb b0 rp : Bool) (h : rp = true → (!b0) = true) : (bif (fb != (!b0)) then true else (bif fb then (!rp) else false)) = !(bif fb then rp else b0) := by
  cases fb <;> cases b0 <;> cases rp <;> simp_all
theorem words4 (a3 a5 : Bool) : (bif (!a3) then (!a5) else false) = !(bif a3 then true else a5) := by cases a3 <;> cases a5 <;> rfl
theorem one_is (d : Dc) (L : List Dc) (len : Nat) : decl_checkOne d L len = ref_one d L len := by
  unfold decl_checkOne ref_one decl_features_wordsRight decl_features_bucketsRight decl_features_innerRight
  by_cases h : 1 ≤ ti d.kind ∧ ti d.kind ≤ 10
  · obtain ⟨h1, h2, h3, h4⟩ := kinds_all d.kind h
    have hp := power_is d.buckets
    unfold inP at hp
    rw [h1, h2, h3, h4, inner_is, inner_is, ← hp]
    have hB := buckets_all (feat2 d.kind).1.buckets (d.buckets == 0#64) (ref_power d.buckets) power_ne
    have ho := one_eq d.words
    rw [geI_not d.entries, leI_not d.entries, geI_not d.words, leI_not d.words, geI_not d.inner, leI_not d.inner]
    cases hw : (feat2 d.kind).1.words
    · exact pick_all _ _ _ _ _ _ _ _ _ _ _ _ (by rw [ho]; simp) hB
    · exact pick_all _ _ _ _ _ _ _ _ _ _ _ _ (words4 _ _) hB
  · rw [feat2_no h, kind_out h]
    cases (bif (bif (d.kind == 3#64) then true else (d.kind == 6#64)) then true else (d.kind == 7#64)) <;> rfl
/-- The first error of a list. -/
def firstE (f : Dc → BitVec 64) : List Dc → BitVec 64
  | [] => 0#64
  | d :: l => if f d = 0#64 then firstE f l else f d
theorem first_none {f : Dc → BitVec 64} {L : List Dc} (h : ∀ j, j < L.length → f (L.getD j dc0) = 0#64) : firstE f L = 0#64 := by
  induction L with
  | nil => rfl
  | cons d l ih =>
    have h0 : f d = 0#64 := h 0 (by simp)
    unfold firstE
    rw [if_pos h0]
    exact ih fun j hj => by have := h (j + 1) (by simpa using hj); simpa using this
theorem first_at {f : Dc → BitVec 64} {L : List Dc} (k : Nat) (hk : k < L.length) (h : ∀ j, j < k → f (L.getD j dc0) = 0#64) (hf : f (L.getD k dc0) ≠ 0#64) : firstE f L = f (L.getD k dc0) := by
  induction L generalizing k with
  | nil => simp at hk
  | cons d l ih =>
    cases k with
    | zero =>
      have hf' : f d ≠ 0#64 := by simpa using hf
      unfold firstE
      rw [if_neg hf']; rfl
    | succ k =>
      have h0 : f d = 0#64 := h 0 (by omega)
      unfold firstE
      rw [if_pos h0, ih k (by simpa using hk) (fun j hj => by have := h (j + 1) (by omega); simpa using this) (by simpa using hf)]
      rfl
end Go.Proofs.YtejcjjimhaokfaaDoor.Dcl
