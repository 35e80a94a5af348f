/-
  Plain facts: instructions there and back, bytes back and there, bytes that are cut.
-/
import Derived.Test.YtccjfnkneiggcaaDevGet
namespace Go.Proofs.Ytccjfnkneiggcaa.Insn
open Go.RowKit Go.Proofs.Ytccjfnkneiggcaa.Num Go.Proofs.Ytccjfnkneiggcaa.ListB
theorem enc_head (x : In) (r : List Int) : (encOne x ++ r).getD 0 0 = x.op := by unfold encOne; rfl
theorem enc_zero (x : In) (r : List Int) (h : x.op = 24) : numAt (encOne x ++ r) 8 4 = 0 := by
  unfold encOne
  rw [if_pos h, laidL_2, laidL_4, laidL_8d, numAt_4]
  simp only [List.cons_append, List.nil_append, List.getD_cons_zero, List.getD_cons_succ]
  rfl
theorem err_enc (x : In) (r : List Int) (hf : Fine x) (h64 : -9223372036854775808 ≤ x.m ∧ x.m ≤ 9223372036854775807) : errFirst (encOne x ++ r) = x.chk := by
  unfold errFirst
  rw [enc_head, dec_enc x hf h64, if_neg (by rw [List.length_append, encOne_length]; omega), if_neg (fun h => h.2 (enc_zero x r h.1))]
theorem lenI_pos (op : Int) : 8 ≤ lenI op := by unfold lenI; split <;> omega
theorem enc_ne (x : In) (r : List Int) : encOne x ++ r ≠ [] := fun e => by
  have := congrArg List.length e
  rw [List.length_append, encOne_length] at this
  have := lenI_pos x.op
  simp at *
  omega
def Big (l : List In) : Prop := ∀ (k : Nat) (x : In), l[k]? = some x → -9223372036854775808 ≤ x.m ∧ x.m ≤ 9223372036854775807
theorem big_of {l : List In} (h : WfL l) : Big l := fun k x hx => bounds_i64 (h k x hx).m
theorem tail_ok {x : In} {l : List In} (h : AllOk (x :: l)) : AllOk l := fun k y hy => h (k + 1) y (by simpa using hy)
theorem tail_big {x : In} {l : List In} (h : Big (x :: l)) : Big l := fun k y hy => h (k + 1) y (by simpa using hy)
/-- Cut anywhere: some of the instructions, or too short. -/
theorem get_cut (l : List In) : ∀ (acc : List In) (c : Nat), AllOk l → Big l → acc.length + l.length ≤ 256 →
    (∃ k, k ≤ l.length ∧ getT (257 - acc.length) acc ((enc l).take c) = (acc ++ l.take k, 0) ∧ enc (l.take k) = (enc l).take c) ∨ getT (257 - acc.length) acc ((enc l).take c) = ([], 20) := by
  induction l with
  | nil =>
    intro acc c _ _ hl
    left
    refine ⟨0, by simp, ?_, by simp [enc]⟩
    rw [show 257 - acc.length = (256 - acc.length) + 1 by simp at hl; omega, getT_end _ _ _ (by simp [enc])]
    simp
  | cons x l ih =>
    intro acc c hok hbig hl
    simp only [List.length_cons] at hl
    have hx : x.chk = 0 := hok 0 x rfl
    have hxm := hbig 0 x rfl
    have hf := fine_of hx
    have h8 := lenI_pos x.op
    have hlen := encOne_length x
    rw [enc_cons]
    by_cases hc0 : c = 0
    · left
      subst hc0
      refine ⟨0, by simp, ?_, by simp [enc]⟩
      rw [show 257 - acc.length = (256 - acc.length) + 1 by omega, getT_end _ _ _ (by simp)]
      simp
    · by_cases hcs : c < lenI x.op
      · right
        have hne : (encOne x ++ enc l).take c ≠ [] := fun e => by
          have := congrArg List.length e
          rw [List.length_take, List.length_append, hlen] at this
          simp at this
          omega
        have he : errFirst ((encOne x ++ enc l).take c) = 20 := by
          unfold errFirst
          have hh : ((encOne x ++ enc l).take c).getD 0 0 = x.op := by
            rw [List.getD_eq_getElem?_getD, List.getElem?_take, if_pos (by omega), ← List.getD_eq_getElem?_getD, enc_head]
          rw [hh, if_pos (by rw [List.length_take, List.length_append, hlen]; omega)]
        rw [show 257 - acc.length = (256 - acc.length) + 1 by omega, getT_err _ _ _ hne (by omega) (by rw [he]; decide), he]
      · have ht : (encOne x ++ enc l).take c = encOne x ++ (enc l).take (c - lenI x.op) := by
          rw [List.take_append, List.take_of_length_le (by omega), hlen]
        rw [ht]
        have hd : (encOne x ++ (enc l).take (c - lenI x.op)).drop (lenI ((encOne x ++ (enc l).take (c - lenI x.op)).getD 0 0)) = (enc l).take (c - lenI x.op) := by
          rw [enc_head, List.drop_append, List.drop_of_length_le (by omega), hlen]
          simp
        have hstep : getT (257 - acc.length) acc (encOne x ++ (enc l).take (c - lenI x.op)) = getT (257 - (acc ++ [x]).length) (acc ++ [x]) ((enc l).take (c - lenI x.op)) := by
          rw [show 257 - acc.length = (256 - acc.length) + 1 by omega, getT_step _ _ _ (enc_ne x _) (by omega) (by rw [err_enc x _ hf hxm]; exact hx), hd, dec_enc x hf hxm]
          congr 1
          rw [List.length_append]; simp only [List.length_cons, List.length_nil]; omega
        rw [hstep]
        rcases ih (acc ++ [x]) (c - lenI x.op) (tail_ok hok) (tail_big hbig) (by rw [List.length_append]; simp only [List.length_cons, List.length_nil]; omega) with ⟨k, hk, h1, h2⟩ | h1
        · left
          refine ⟨k + 1, by simp; omega, ?_, ?_⟩
          · rw [h1]; simp
          · rw [List.take_succ_cons, enc_cons, h2]
        · right; exact h1
/-- There, and back. -/
theorem get_enc (l : List In) (hok : AllOk l) (hbig : Big l) (hl : l.length ≤ 256) : getR (enc l) = (l, 0) := by
  unfold getR
  have go : ∀ (l acc : List In), AllOk l → Big l → acc.length + l.length ≤ 256 → getT (257 - acc.length) acc (enc l) = (acc ++ l, 0) := by
    intro l
    induction l with
    | nil =>
      intro acc _ _ hl
      simp only [List.length_nil] at hl
      rw [show 257 - acc.length = (256 - acc.length) + 1 by omega, getT_end _ _ (enc []) rfl]; simp
    | cons x l ih =>
      intro acc hok hbig hl
      simp only [List.length_cons] at hl
      have hx : x.chk = 0 := hok 0 x rfl
      have hf := fine_of hx
      have hxm := hbig 0 x rfl
      have hlen := encOne_length x
      have hd : (encOne x ++ enc l).drop (lenI ((encOne x ++ enc l).getD 0 0)) = enc l := by
        rw [enc_head, List.drop_append, List.drop_of_length_le (by omega), hlen]; simp
      rw [enc_cons, show 257 - acc.length = (256 - acc.length) + 1 by omega, getT_step _ _ _ (enc_ne x _) (by omega) (by rw [err_enc x _ hf hxm]; exact hx), hd, dec_enc x hf hxm, show 256 - acc.length = 257 - (acc ++ [x]).length by rw [List.length_append]; simp only [List.length_cons, List.length_nil]; omega, ih (acc ++ [x]) (tail_ok hok) (tail_big hbig) (by rw [List.length_append]; simp only [List.length_cons, List.length_nil]; omega)]
      simp
  have := go l [] hok hbig (by simp; omega)
  simpa using this
end Go.Proofs.Ytccjfnkneiggcaa.Insn
