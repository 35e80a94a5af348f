/-
  Plain facts on instructions that are put; the program's Put.
-/
import Derived.Test.YtpknnmnknaaccaaDevBytes
import Derived.OpenShut
namespace Go.Proofs.Ytpknnmnknaaccaa.Insn
open Go.RowKit Go.Proofs.Ytpknnmnknaaccaa.Num Go.Proofs.Ytpknnmnknaaccaa.ListB
structure InWf (x : In) : Prop where
  op : (Lit.int .i64 x.op).wf = true
  d : (Lit.int .i64 x.d).wf = true
  s : (Lit.int .i64 x.s).wf = true
  o : (Lit.int .i64 x.o).wf = true
  m : (Lit.int .i64 x.m).wf = true
def WfL (l : List In) : Prop := ∀ (k : Nat) (x : In), l[k]? = some x → InWf x
def firstErr : List In → Int
  | [] => 0
  | x :: r => if x.chk = 0 then firstErr r else x.chk
def AllOk (l : List In) : Prop := ∀ (k : Nat) (x : In), l[k]? = some x → x.chk = 0
theorem allOk_nil : AllOk [] := fun k x h => by simp at h
theorem allOk_snoc {l : List In} {k : Nat} {x : In} (h : AllOk (l.take k)) (hx : l[k]? = some x) (hc : x.chk = 0) : AllOk (l.take (k + 1)) := by
  obtain ⟨hk, e⟩ := List.getElem?_eq_some_iff.1 hx
  intro j y hy
  rw [List.getElem?_take] at hy
  split at hy
  · by_cases hj : j < k
    · exact h j y (by rw [List.getElem?_take, if_pos hj]; exact hy)
    · obtain rfl : j = k := by omega
      rw [hx] at hy; cases hy; exact hc
  · cases hy
theorem firstErr_ok {l : List In} (h : AllOk l) : firstErr l = 0 := by
  induction l with
  | nil => rfl
  | cons x r ih =>
    unfold firstErr
    rw [if_pos (h 0 x rfl)]
    exact ih fun k y hy => h (k + 1) y (by simpa using hy)
theorem ok_firstErr {l : List In} (h : firstErr l = 0) : AllOk l := by
  induction l with
  | nil => exact allOk_nil
  | cons x r ih =>
    unfold firstErr at h
    by_cases hx : x.chk = 0
    · rw [if_pos hx] at h
      intro k y hy
      cases k with
      | zero => simp at hy; subst hy; exact hx
      | succ k => exact ih h k y (by simpa using hy)
    · rw [if_neg hx] at h; exact absurd h hx
theorem firstErr_at {l : List In} {k : Nat} {x : In} (h : AllOk (l.take k)) (hx : l[k]? = some x) (hc : x.chk ≠ 0) : firstErr l = x.chk := by
  induction l generalizing k with
  | nil => simp at hx
  | cons y r ih =>
    unfold firstErr
    cases k with
    | zero => simp at hx; subst hx; rw [if_neg hc]
    | succ k =>
      rw [if_pos (h 0 y (by simp))]
      exact ih (k := k) (fun j z hz => h (j + 1) z (by simpa using hz)) (by simpa using hx)
def putErr (l : List In) : Int := if 256 < l.length then 19 else firstErr l
def putL (l : List In) : List Int := if putErr l = 0 then enc l else []
theorem putL_err {l : List In} (h : putErr l ≠ 0) : putL l = [] := by unfold putL; rw [if_neg h]
theorem putL_ok {l : List In} (h : putErr l = 0) : putL l = enc l := by unfold putL; rw [if_pos h]
theorem enc_le (l : List In) : (enc l).length ≤ 16 * l.length := by
  induction l with
  | nil => simp [enc]
  | cons x l ih =>
    rw [enc_cons, List.length_append, encOne_length, List.length_cons]
    unfold lenI; split <;> omega
theorem enc_snoc (l : List In) (k : Nat) (x : In) (h : l[k]? = some x) : enc (l.take k) ++ encOne x = enc (l.take (k + 1)) := by
  obtain ⟨hk, e⟩ := List.getElem?_eq_some_iff.1 h
  rw [List.take_succ_eq_append_getElem hk, enc_append, e]
  simp [enc]
def PutPost (w : World) (l : List In) (e : Ending) (w' : World) : Prop :=
  ∃ v, e = .returned (.tuple #[v, .int .i64 (putErr l)]) ∧ w'.ownsRow w.heap.size 5 1 v (putL l).length (V (putL l)) ∧ Below w.heap.size w w'
theorem put_many (w w' : World) (l : List In) (h : 256 < l.length) (hb : Below w.heap.size w w') : PutPost w l (.returned (.tuple #[.slice none 0 0, .int .i64 19])) w' := by
  have e : putErr l = 19 := by unfold putErr; rw [if_pos h]
  refine ⟨_, by rw [e], ?_, hb⟩
  rw [putL_err (by omega)]
  exact World.ownsRow_nil _ _ _ _
theorem put_bad (w w' : World) (l : List In) (k : Nat) (x : In) (hl : l.length ≤ 256) (hok : AllOk (l.take k)) (hx : l[k]? = some x) (hc : x.chk ≠ 0) (hb : Below w.heap.size w w') : PutPost w l (.returned (.tuple #[.slice none 0 0, .int .i64 x.chk])) w' := by
  have e : putErr l = x.chk := by unfold putErr; rw [if_neg (by omega)]; exact firstErr_at hok hx hc
  refine ⟨_, by rw [e], ?_, hb⟩
  rw [putL_err (by rw [e]; exact hc)]
  exact World.ownsRow_nil _ _ _ _
theorem put_good (w w' : World) (l : List In) (v : Value) (n : Nat) (hl : l.length ≤ 256) (hok : AllOk l) (hn : n = (enc l).length) (hown : w'.ownsRow w.heap.size 5 1 v n (V (enc l))) (hb : Below w.heap.size w w') : PutPost w l (.returned (.tuple #[v, .int .i64 0])) w' := by
  have e : putErr l = 0 := by unfold putErr; rw [if_neg (by omega)]; exact firstErr_ok hok
  subst hn
  exact ⟨v, by rw [e], by rw [putL_ok e]; exact hown, hb⟩
theorem own_cells {w : World} {base g n c : Nat} {zs : List Int} (h : w.ownsRow base 5 1 (.slice (some ⟨g, 0, none⟩) n c) n (V zs)) : ∀ j u, (V zs)[j]? = some u → w.cell? ((⟨g, 0, none⟩ : Addr).add j) = some u := by
  intro j u hu
  have hj : j < n * 1 := by have := (List.getElem?_eq_some_iff.1 hu).1; rw [h.1] at this; exact this
  have e : (⟨g, 0, none⟩ : Addr).add j = ⟨g, j, none⟩ := by unfold Addr.add; split <;> simp_all
  rw [e, h.cellAt j hj]; exact hu
theorem V_one (zs : List Int) : ∀ u ∈ V zs, u.oneCell' = true := by
  intro u hu
  unfold V at hu
  simp at hu
  obtain ⟨a, _, rfl⟩ := hu
  rfl
end Go.Proofs.Ytpknnmnknaaccaa.Insn
