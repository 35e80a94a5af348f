/-
  Plain facts on a list of what is to be gone through: when it is at its end, all that is reached is in it. The kit's Pick.
-/
import Derived.Test.YtfmdljnagkjhdaaFlJ
import Derived.Test.YtfmdljnagkjhdaaFlS
namespace Go.Proofs.Ytfmdljnagkjhdaa.Flow
open Go.RowKit Go.Proofs.Ytfmdljnagkjhdaa.Num Go.Proofs.Ytfmdljnagkjhdaa.ListB Go.Proofs.Ytfmdljnagkjhdaa.Insn
/-- The instructions T that are to be gone through, the marks bs, m of T are gone through. -/
structure Bfs (l : List In) (n m : Nat) (T : List Int) (bs : List Bool) : Prop where
  len : bs.length = n
  rng : ∀ z ∈ T, 0 ≤ z ∧ z < n
  cnt : T.length = bs.count true
  mem : ∀ i : Nat, bs.getD i false = true ↔ (i : Int) ∈ T
  zero : (0 : Int) ∈ T
  on : ∀ j, j < m → ∀ z, T[j]? = some z → ∀ q ∈ nxI (at' l z.toNat).op z (tgI l z.toNat), q ∈ T
theorem set_true (S : List Bool) : ∀ i, i < S.length → S.getD i false = false → (S.set i true).count true = S.count true + 1 := by
  induction S with
  | nil => intro i h; simp at h
  | cons a S ih =>
    intro i hi h
    cases i with
    | zero =>
      have : a = false := by simpa using h
      subst this
      simp
    | succ i =>
      have := ih i (by simpa using hi) (by simpa using h)
      cases a <;> simp <;> omega
theorem bfs_le {l : List In} {n m : Nat} {T : List Int} {bs : List Bool} (h : Bfs l n m T bs) : T.length ≤ n := by
  rw [h.cnt, ← h.len]; exact List.count_le_length
theorem bfs_start (l : List In) (n : Nat) (hn : 0 < n) : Bfs l n 0 [0] (startR n) := by
  refine ⟨startR_length n, fun z hz => ?_, ?_, fun i => ?_, by simp, fun j hj => by omega⟩
  · have : z = 0 := by simpa using hz
    omega
  · unfold startR
    rw [set_true _ 0 (by simpa using hn) (by rw [List.getD_eq_getElem?_getD, List.getElem?_replicate]; split <;> rfl)]
    simp [List.count_replicate]
  · rw [startR_get]
    simp; omega
theorem bfs_add {l : List In} {n m : Nat} {T : List Int} {bs : List Bool} (h : Bfs l n m T bs) (z : Nat) (hz : z < n) (hm : m ≤ T.length) (hb : bs.getD z false = false) : Bfs l n m (T ++ [(z : Int)]) (bs.set z true) := by
  refine ⟨by simpa using h.len, fun q hq => ?_, ?_, fun i => ?_, List.mem_append_left _ h.zero, fun j hj q hq r hr => ?_⟩
  · rcases List.mem_append.1 hq with h1 | h1
    · exact h.rng q h1
    · have : q = z := by simpa using h1
      omega
  · rw [set_true bs z (by rw [h.len]; exact hz) hb, List.length_append, h.cnt]; rfl
  · rw [getD_set, List.mem_append, ← h.mem i]
    by_cases e : z = i
    · subst e
      rw [if_pos ⟨rfl, by rw [h.len]; exact hz⟩]
      simp
    · rw [if_neg (by intro c; exact e c.1)]
      simp; omega
  · rw [List.getElem?_append_left (by omega)] at hq
    exact List.mem_append_left _ (h.on j hj q hq r hr)
theorem bfs_next {l : List In} {n m : Nat} {T : List Int} {bs : List Bool} (h : Bfs l n m T bs) {u : Int} (hu : T[m]? = some u) (hq : ∀ q ∈ nxI (at' l u.toNat).op u (tgI l u.toNat), q ∈ T) : Bfs l n (m + 1) T bs :=
  ⟨h.len, h.rng, h.cnt, h.mem, h.zero, fun j hj z hz q hqq => by
    by_cases e : j = m
    · subst e; rw [hu] at hz; cases hz; exact hq q hqq
    · exact h.on j (by omega) z hz q hqq⟩
theorem bfs_end {l : List In} {n m : Nat} {T : List Int} {bs : List Bool} (h : Bfs l n m T bs) (hm : T.length ≤ m) (hr : ∀ i, i < n → Reach (nxt l) i) : T.length = n := by
  have key : ∀ i, Reach (nxt l) i → (i : Int) ∈ T := by
    intro i hi
    induction hi with
    | zero => exact h.zero
    | step _ hj ih =>
      obtain ⟨q, hq, rfl⟩ := List.mem_map.1 hj
      obtain ⟨k, hk, e⟩ := List.mem_iff_getElem.1 ih
      have h1 := h.on k (by omega) _ (by rw [List.getElem?_eq_getElem hk, e]) q (by simpa using hq)
      have := h.rng q h1
      rw [show ((q.toNat : Nat) : Int) = q by omega]
      exact h1
  rw [h.cnt, ← h.len]
  refine List.count_eq_length.2 fun b hb => ?_
  obtain ⟨i, hi, rfl⟩ := List.mem_iff_getElem.1 hb
  have h2 := (h.mem i).2 (key i (hr i (by rw [← h.len]; exact hi)))
  rw [List.getD_eq_getElem?_getD, List.getElem?_eq_getElem hi] at h2
  simpa using h2.symm
theorem take_mem {N T : List Int} {k : Nat} {q : Int} (h : ∀ x ∈ N.take k, x ∈ T) (hk : N[k]? = some q) (hq : q ∈ T) : ∀ x ∈ N.take (k + 1), x ∈ T := fun x hx => by
  obtain ⟨hl, e⟩ := List.getElem?_eq_some_iff.1 hk
  rw [List.take_succ_eq_append_getElem hl, List.mem_append, List.mem_singleton] at hx
  rcases hx with h1 | h1
  · exact h x h1
  · rw [h1, e]; exact hq
theorem own_diff {w : World} {b1 b2 : Nat} {e1 e2 : TypeId} {s1 s2 n1 n2 : Nat} {v1 v2 : Value} {xs1 xs2 : List Value} (h1 : w.ownsRow b1 e1 s1 v1 n1 xs1) (h2 : w.ownsRow b2 e2 s2 v2 n2 xs2) (he : e1 ≠ e2) : v1.ownBlock = none ∨ v1.ownBlock ≠ v2.ownBlock := by
  rcases h1.2 with ⟨rfl, _⟩ | ⟨g1, c1, u1, rfl, _, hg1, _⟩
  · exact Or.inl rfl
  · rcases h2.2 with ⟨rfl, _⟩ | ⟨g2, c2, u2, rfl, _, hg2, _⟩
    · exact Or.inr (by simp [Value.ownBlock])
    · refine Or.inr fun e => he ?_
      have : g1 = g2 := by simpa [Value.ownBlock] using e
      subst this
      rw [hg1] at hg2
      injection hg2 with e'
      injection e' with _ e''
theorem pickF_any (c : Int) (n : Nat) (w : World) (hc : (Lit.int .i64 c).wf = true) (h1 : 0 < n) (h2 : n ≤ 1000) :
    Calls Try.prog 22 #[.int .i64 c, .int .i64 (n : Nat)] w fun e w' => (∃ k : Nat, k < n ∧ e = .returned (.int .i64 (k : Nat))) ∧ w = w' := by
  have hb := bounds_i64 hc
  have hn1 : decide ((n : Int) < 1) = false := by simp; omega
  have hn0 : ((n : Int) == 0) = false := by simp; omega
  have ht0 : -(n : Int) < c.tmod (n : Int) := by have := Int.lt_tmod_of_pos c (show (0 : Int) < (n : Int) by omega); omega
  have ht1 : c.tmod (n : Int) < (n : Int) := Int.tmod_lt_of_pos c (by omega)
  have hw : wrap64 (c.tmod (n : Int) + (n : Int)) = c.tmod (n : Int) + (n : Int) := by unfold wrap64; first | omega | (split <;> omega)
  go_enter Try.func22, Try.ntmps22
  go_wp2_with fail
  · go_ret
    refine ⟨⟨(c.tmod (n : Int) + (n : Int)).toNat, by omega, ?_⟩, rfl⟩
    rw [Int.toNat_of_nonneg (by omega)]
    rfl
  · go_ret
    refine ⟨⟨(c.tmod (n : Int)).toNat, by omega, ?_⟩, rfl⟩
    rw [Int.toNat_of_nonneg (by omega)]
    rfl
end Go.Proofs.Ytfmdljnagkjhdaa.Flow
