/-
  Plain facts on instructions that others are put ahead of: places, targets, what is reached, so many further on.
-/
import Derived.Test.YtpknnmnknaaccaaFlH
namespace Go.Proofs.Ytpknnmnknaaccaa.Flow
open Go.RowKit Go.Proofs.Ytpknnmnknaaccaa.Num Go.Proofs.Ytpknnmnknaaccaa.Insn
/-- What is put ahead: nothing that jumps or ends. -/
def Pad (A : List In) : Prop := ∀ x ∈ A, x.op = 24 ∨ x.op = 183
theorem plc_app (A l : List In) (k : Nat) : plc (A ++ l) (A.length + k) = plc A A.length + plc l k := by
  unfold plc
  rw [List.take_append, List.take_of_length_le (show A.length ≤ A.length + k by omega), Nat.add_sub_cancel_left, List.map_append, List.sum_append, List.take_length]
theorem at_right (A l : List In) (i : Nat) : at' (A ++ l) (A.length + i) = at' l i := by
  unfold at'
  rw [List.getD_eq_getElem?_getD, List.getD_eq_getElem?_getD, List.getElem?_append_right (by omega), Nat.add_sub_cancel_left]
theorem at_left (A l : List In) (i : Nat) (h : i < A.length) : at' (A ++ l) i = A[i] := by
  unfold at'
  rw [List.getD_eq_getElem?_getD, List.getElem?_append_left h, List.getElem?_eq_getElem h]; rfl
theorem pad_no {A : List In} (hA : Pad A) (l : List In) (i : Nat) (h : i < A.length) : jmpB (at' (A ++ l) i).op = false ∧ (at' (A ++ l) i).op ≠ 149 ∧ (at' (A ++ l) i).op ≠ 5 := by
  rw [at_left A l i h]
  rcases hA _ (List.getElem_mem h) with e | e <;> rw [e] <;> exact ⟨rfl, by omega, by omega⟩
def shift (p : Nat) (t : Int) : Int := if t < 0 then -1 else t + p
theorem want_app (A l : List In) (i : Nat) : wantP (A ++ l) (A.length + i) = (plc A A.length : Int) + wantP l i := by
  unfold wantP
  rw [plc_app A l i, at_right]; omega
theorem find_app (A l : List In) (z : Int) (hz : 0 ≤ z) : orNo (findP (A ++ l) ((plc A A.length : Int) + z)) = shift A.length (orNo (findP l z)) := by
  cases e : findP l z with
  | some k =>
    obtain ⟨hk, he⟩ := findP_some e
    rw [findP_at (k := A.length + k) (by simp; omega) (by rw [plc_app A l k]; omega)]
    show ((A.length + k : Nat) : Int) = shift A.length ((k : Nat) : Int)
    have h0 : ¬ (((k : Nat) : Int) < 0) := by omega
    unfold shift
    simp only [h0, if_false]
    omega
  | none =>
    cases e2 : findP (A ++ l) ((plc A A.length : Int) + z) with
    | none => simp [orNo, shift]
    | some j =>
      exfalso
      obtain ⟨hj, he⟩ := findP_some e2
      have hp : plc (A ++ l) A.length = plc A A.length := by have := plc_app A l 0; rw [plc_zero] at this; simpa using this
      by_cases h1 : j < A.length
      · have := plc_lt (A ++ l) h1 (by simp)
        omega
      · obtain ⟨k, rfl⟩ : ∃ k, j = A.length + k := ⟨j - A.length, by omega⟩
        have hk : k < l.length := by simp at hj; omega
        rw [plc_app A l k] at he
        exact findP_none e k hk (by omega)
theorem tg_left {A : List In} (hA : Pad A) (l : List In) (i : Nat) (h : i < A.length) : tgI (A ++ l) i = -1 := tgI_no (pad_no hA l i h).1
theorem tg_right (A l : List In) (i : Nat) (hw : jmpB (at' l i).op = true → 0 ≤ wantP l i) : tgI (A ++ l) (A.length + i) = shift A.length (tgI l i) := by
  unfold tgI
  rw [at_right, want_app A l i]
  cases hj : jmpB (at' l i).op
  · simp [shift]
  · simp only [if_true]
    exact find_app A l _ (hw hj)
/-- Does a jump lead to a place below the first one? -/
def backB (l : List In) : Bool := (List.range l.length).any fun i => jmpB (at' l i).op && decide (wantP l i < 0)
theorem back_no {l : List In} (h : backB l = false) (i : Nat) (hi : i < l.length) (hj : jmpB (at' l i).op = true) : 0 ≤ wantP l i := by
  unfold backB at h
  have := List.any_eq_false.1 h i (by simpa using hi)
  rw [hj] at this
  simpa using this
theorem land_back {l : List In} (h : landB l = true) : backB l = false := by
  unfold backB
  rw [List.any_eq_false]
  intro i hi
  have hi' : i < l.length := by simpa using hi
  cases hj : jmpB (at' l i).op
  · simp
  · have h1 := (landB_iff l).1 h i hi' hj
    unfold tgI at h1
    rw [hj] at h1
    cases e : findP l (wantP l i) with
    | none => rw [e] at h1; simp [orNo] at h1
    | some k =>
      have := (findP_some e).2
      simp; omega
theorem land_app {A : List In} (hA : Pad A) {l : List In} (hb : backB l = false) : landB (A ++ l) = landB l := by
  rw [Bool.eq_iff_iff, landB_iff, landB_iff]
  constructor
  · intro h i hi hj
    have := h (A.length + i) (by simp; omega) (by rw [at_right]; exact hj)
    rw [tg_right A l i (back_no hb i hi)] at this
    unfold shift at this
    split at this <;> omega
  · intro h i hi hj
    by_cases h1 : i < A.length
    · rw [(pad_no hA l i h1).1] at hj; cases hj
    · obtain ⟨k, rfl⟩ : ∃ k, i = A.length + k := ⟨i - A.length, by omega⟩
      have hk : k < l.length := by simp at hi; omega
      rw [at_right] at hj
      rw [tg_right A l k (back_no hb k hk)]
      have := h k hk hj
      unfold shift
      rw [if_neg (by omega)]; omega
theorem fall_app (A l : List In) (h : 0 < l.length) : fallB (A ++ l) = fallB l := by
  unfold fallB
  rw [show (A ++ l).length - 1 = A.length + (l.length - 1) by simp; omega, at_right]
theorem nx_right (A l : List In) (i : Nat) (hw : jmpB (at' l i).op = true → 0 ≤ wantP l i ∧ 0 ≤ tgI l i) : nxI (at' (A ++ l) (A.length + i)).op ((A.length + i : Nat) : Int) (tgI (A ++ l) (A.length + i)) = (nxI (at' l i).op i (tgI l i)).map (· + (A.length : Int)) := by
  rw [tg_right A l i (fun h => (hw h).1), at_right]
  unfold nxI
  by_cases h1 : (at' l i).op = 149
  · rw [if_pos h1, if_pos h1]; rfl
  · rw [if_neg h1, if_neg h1]
    by_cases h2 : (at' l i).op = 5
    · rw [if_pos h2, if_pos h2]
      have := (hw (by rw [h2]; rfl)).2
      unfold shift
      rw [if_neg (by omega)]; rfl
    · rw [if_neg h2, if_neg h2]
      have hc : ((A.length + i : Nat) : Int) + 1 = ((i : Int) + 1) + A.length := by omega
      cases hj : jmpB (at' l i).op
      · simp only [Bool.false_eq_true, if_false]
        rw [hc]; rfl
      · have := (hw hj).2
        have e1 : shift A.length (tgI l i) = tgI l i + A.length := by unfold shift; rw [if_neg (by omega)]
        rw [e1]
        simp only [if_true]
        by_cases h3 : tgI l i = (i : Int) + 1
        · rw [if_pos (by omega), if_pos h3, hc]; rfl
        · rw [if_neg (by omega), if_neg h3, hc]; rfl
theorem nx_left {A : List In} (hA : Pad A) (l : List In) (i : Nat) (h : i < A.length) : nxt (A ++ l) i = [i + 1] := by
  obtain ⟨h1, h2, h3⟩ := pad_no hA l i h
  unfold nxt nxI
  rw [if_neg h2, if_neg h3, h1]
  simp
theorem sound_app {A : List In} (hA : Pad A) {l : List In} (h : Sound l) : Sound (A ++ l) :=
  ⟨by rw [land_app hA (land_back h.land)]; exact h.land, by rw [fall_app A l h.pos]; exact h.fall, by have := h.pos; simp; omega⟩
theorem nx_wants {l : List In} (h : landB l = true) (i : Nat) (hi : i < l.length) (hj : jmpB (at' l i).op = true) : 0 ≤ wantP l i ∧ 0 ≤ tgI l i := ⟨back_no (land_back h) i hi hj, (landB_iff l).1 h i hi hj⟩
theorem nxt_right (A : List In) {l : List In} (hS : Sound l) (i : Nat) (hi : i < l.length) : nxt (A ++ l) (A.length + i) = (nxt l i).map (A.length + ·) := by
  unfold nxt
  rw [nx_right A l i (nx_wants hS.land i hi), List.map_map, List.map_map]
  refine List.map_congr_left fun z hz => ?_
  have := nxI_mem hS hi hz
  simp only [Function.comp]; omega
theorem reach_ahead {A : List In} (hA : Pad A) (l : List In) (i : Nat) (h : i ≤ A.length) : Reach (nxt (A ++ l)) i := by
  induction i with
  | zero => exact Reach.zero
  | succ i ih => exact Reach.step (ih (by omega)) (by rw [nx_left hA l i (by omega)]; simp)
theorem reach_up {A : List In} (hA : Pad A) {l : List In} (hS : Sound l) {i : Nat} (h : Reach (nxt l) i) : i < l.length ∧ Reach (nxt (A ++ l)) (A.length + i) := by
  induction h with
  | zero => exact ⟨hS.pos, reach_ahead hA l _ (Nat.le_refl _)⟩
  | step _ hj ih => exact ⟨nxt_lt hS ih.1 hj, Reach.step ih.2 (by rw [nxt_right A hS _ ih.1]; exact List.mem_map.2 ⟨_, hj, rfl⟩)⟩
theorem reach_down {A : List In} (hA : Pad A) {l : List In} (hS : Sound l) {j : Nat} (h : Reach (nxt (A ++ l)) j) : j < A.length ∨ ∃ i, j = A.length + i ∧ i < l.length ∧ Reach (nxt l) i := by
  induction h with
  | zero =>
    by_cases h0 : 0 < A.length
    · exact Or.inl h0
    · exact Or.inr ⟨0, by omega, hS.pos, Reach.zero⟩
  | step _ hj ih =>
    rename_i u v hu
    rcases ih with h1 | ⟨i, rfl, hi, hr⟩
    · rw [nx_left hA l _ h1] at hj
      have e : v = u + 1 := by simpa using hj
      subst e
      by_cases h2 : u + 1 < A.length
      · exact Or.inl h2
      · exact Or.inr ⟨0, by omega, hS.pos, Reach.zero⟩
    · rw [nxt_right A hS _ hi] at hj
      obtain ⟨k, hk, rfl⟩ := List.mem_map.1 hj
      exact Or.inr ⟨k, rfl, nxt_lt hS hi hk, Reach.step hr hk⟩
theorem dead_app {A : List In} (hA : Pad A) {l : List In} (hS : Sound l) : deadB (A ++ l) = deadB l := by
  have key : deadB (A ++ l) = false ↔ deadB l = false := by
    rw [dead_iff (sound_app hA hS), dead_iff hS]
    constructor
    · intro h i hi
      rcases reach_down hA hS (h (A.length + i) (by simp; omega)) with h1 | ⟨k, e, _, hr⟩
      · omega
      · obtain rfl : i = k := by omega
        exact hr
    · intro h j hj
      by_cases h1 : j < A.length
      · exact reach_ahead hA l j (by omega)
      · obtain ⟨i, rfl⟩ : ∃ i, j = A.length + i := ⟨j - A.length, by omega⟩
        exact (reach_up hA hS (h i (by simp at hj; omega))).2
  cases h1 : deadB l <;> cases h2 : deadB (A ++ l) <;> simp_all
/-- The same is wrong with them, but where a jump leads to a place below the first one. -/
theorem err_app {A : List In} (hA : Pad A) {l : List In} (h0 : 0 < l.length) (hn : A.length + l.length ≤ 256) : errF (A ++ l) = errF l ∨ (errF l = 11 ∧ backB l = true) := by
  cases hL : landB l
  · have h11 : errF l = 11 := err_jump (by omega) h0 hL
    cases hb : backB l
    · left
      rw [h11]
      exact err_jump (by simp; omega) (by simp; omega) (by rw [land_app hA hb]; exact hL)
    · exact Or.inr ⟨h11, rfl⟩
  · left
    have hb := land_back hL
    have hL2 : landB (A ++ l) = true := by rw [land_app hA hb]; exact hL
    cases hF : fallB l
    · have hS : Sound l := ⟨hL, hF, h0⟩
      have hF2 : fallB (A ++ l) = false := by rw [fall_app A l h0]; exact hF
      cases hD : deadB l
      · rw [err_good (by omega) h0 hL hF hD, err_good (by simp; omega) (by simp; omega) hL2 hF2 (by rw [dead_app hA hS]; exact hD)]
      · rw [err_dead (by omega) h0 hL hF hD, err_dead (by simp; omega) (by simp; omega) hL2 hF2 (by rw [dead_app hA hS]; exact hD)]
    · rw [err_fall (by omega) h0 hL hF, err_fall (by simp; omega) (by simp; omega) hL2 (by rw [fall_app A l h0]; exact hF)]
end Go.Proofs.Ytpknnmnknaaccaa.Flow
