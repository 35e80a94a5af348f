/-
  The contract of the document's Next.
-/
import Derived.Test.YtfmdljnagkjhdaaFlX
import Derived.Test.YtfmdljnagkjhdaaFlU
namespace Go.Proofs.Ytfmdljnagkjhdaa.Flow
open Go.RowKit Go.Proofs.Ytfmdljnagkjhdaa.Num Go.Proofs.Ytfmdljnagkjhdaa.ListB Go.Proofs.Ytfmdljnagkjhdaa.Insn
/-- What the document's Next finds: an instruction and its target. -/
structure RNIn (w : World) (b off n tb toff tn : Nat) (l : List In) (i : Nat) (x : In) (t : Int) : Prop where
  hx : l[i]? = some x
  hi : i < n
  ht : i < tn
  c0 : w.cell? ⟨b, off + i * 5, none⟩ = some (.int .i64 x.op)
  hb : b < w.heap.size
  ct : w.cell? ⟨tb, toff + i, none⟩ = some (.int .i64 t)
  htb : tb < w.heap.size
  yes : jmpB x.op = true → 0 ≤ t
  no : jmpB x.op = false → t = -1
theorem nxI_two (op i t : Int) (h1 : op ≠ 149) (h2 : op ≠ 5) (h : jmpB op = true) (hn : t ≠ i + 1) : nxI op i t = [i + 1] ++ [t] := by
  unfold nxI; rw [if_neg h1, if_neg h2, h]; simp [hn]
theorem nxI_same (op i t : Int) (h1 : op ≠ 149) (h2 : op ≠ 5) (h : jmpB op = true) (hn : t = i + 1) : nxI op i t = [i + 1] := by
  unfold nxI; rw [if_neg h1, if_neg h2, h]; simp [hn]
theorem nxI_one (op i t : Int) (h1 : op ≠ 149) (h2 : op ≠ 5) (h : jmpB op = false) : nxI op i t = [i + 1] := by
  unfold nxI; rw [if_neg h1, if_neg h2, h]; rfl
set_option maxRecDepth 100000 in
set_option maxHeartbeats 2000000 in
/-- An instruction that only goes on to its target, or to nothing. -/
theorem rnext_few (b off n cap tb toff tn tc : Nat) (l : List In) (i : Nat) (x : In) (t : Int) (w : World) (h : RNIn w b off n tb toff tn l i x t) (hop : x.op = 149 ∨ x.op = 5) :
    Calls Try.prog 20 #[.slice (some ⟨b, off, none⟩) n cap, .slice (some ⟨tb, toff, none⟩) tn tc, .int .i64 i] w (OwnI w (nxI x.op i t)) := by
  have hi0 : (0 : Int) ≤ (i : Int) := by have := h.hi; omega
  have hi1 : (i : Int) < (n : Int) := by have := h.hi; omega
  have hi2 : (i : Int) < (tn : Int) := by have := h.ht; omega
  have c0 := h.c0
  have ct := h.ct
  rcases hop with hop | hop
  · have ht := h.no (by rw [hop]; rfl)
    rw [hop] at c0 ⊢
    rw [ht] at ct ⊢
    rw [nxI_exit]
    have HP := hid (show OwnI w [] (.returned (.slice none 0 0)) (w.drewN 0) from ⟨_, rfl, World.ownsRow_nil _ _ _ _, Below.refl _ _⟩)
    clear h hop ht
    go_enter Try.func20, Try.ntmps20
    go_wp2_with fail
    go_quiet (fail)
    go_wp2_with fail
    go_ret
    exact ⟨_, rfl, World.ownsRow_nil _ _ _ _, ListB.below_drewN (Below.refl _ _) _⟩
  · have ht := h.yes (by rw [hop]; rfl)
    have hd : decide ((0 : Int) ≤ t) = true := by simpa using ht
    have htb := h.htb
    rw [hop] at c0 ⊢
    rw [nxI_always]
    clear h hop
    go_enter Try.func20, Try.ntmps20
    go_wp2_with fail
    go_quiet (fail)
    go_wp2_with (at_builtin; refine wpList_appI _ rfl _ _ rfl w.heap.size (.slice none 0 0) 0 [] rfl (World.ownsRow_nil _ _ _ _) _ _ t rfl (new_cell rfl rfl) (by omega) (by simp) ?_)
    intro v' w1 hown hgr _
    have HP := hid (show OwnI w [t] (.returned v') w1 from ⟨v', rfl, hown, ((ListB.below_drewN (Below.refl _ _) _ : Below w.heap.size w (w.drewN _)).alloc (Nat.le_refl _) (.cells #[.int .i64 t] 3)).grown hgr (by simp) (fun q hq => by simp [Value.ownBlock] at hq)⟩)
    clear hown hgr
    go_wp2_with fail
    go_ret
    exact HP.out
set_option maxRecDepth 100000 in
set_option maxHeartbeats 2000000 in
/-- An instruction that goes on to the next one, and to its target. -/
theorem rnext_more (b off n cap tb toff tn tc : Nat) (l : List In) (i : Nat) (x : In) (t : Int) (w : World) (h : RNIn w b off n tb toff tn l i x t) (hn : n ≤ 1000) (h1 : x.op ≠ 149) (h2 : x.op ≠ 5) :
    Calls Try.prog 20 #[.slice (some ⟨b, off, none⟩) n cap, .slice (some ⟨tb, toff, none⟩) tn tc, .int .i64 i] w (OwnI w (nxI x.op i t)) := by
  have hi0 : (0 : Int) ≤ (i : Int) := by have := h.hi; omega
  have hi1 : (i : Int) < (n : Int) := by have := h.hi; omega
  have hi2 : (i : Int) < (tn : Int) := by have := h.ht; omega
  have c0 := h.c0
  have ct := h.ct
  have htb := h.htb
  have b1 : (x.op != 149) = true := by simpa using h1
  have b2 : (x.op != 5) = true := by simpa using h2
  have HE2 := hid (nxI_two x.op i t h1 h2)
  have HE1 := hid (nxI_same x.op i t h1 h2)
  have HE0 := hid (nxI_one x.op i t h1 h2)
  have HY := hid h.yes
  have HNO := hid h.no
  have hin := h.hi
  generalize x.op = op at c0 b1 b2 HE2 HE1 HE0 HY HNO ⊢
  clear h h1 h2
  go_enter Try.func20, Try.ntmps20
  go_upto_region 3 with fail
  go_wp2_with (at_builtin; (refine wpList_appI _ rfl _ _ rfl w.heap.size (.slice none 0 0) 0 [] rfl (World.ownsRow_nil _ _ _ _) _ _ ((i : Int) + 1) rfl (new_cell rfl rfl) (by omega) (by simp) ?_; intro v' w1 hown hgr hmv))
  have hown' : w1.ownsRow w.heap.size 3 1 v' 1 (VI [(i : Int) + 1]) := hown
  obtain ⟨g, c, rfl, cg, _, hgl, _⟩ := own_cellI (j := 0) (z := (i : Int) + 1) hown' rfl
  have hgr' : (w.alloc (.cells #[.int .i64 ((i : Int) + 1)] 3)).grownBy w1 none := hgr
  have hB : Below w.heap.size w w1 := ((below_new w (.cells #[.int .i64 ((i : Int) + 1)] 3))).grown hgr' (by simp) (fun q hq => by cases hq)
  have HB := hid hB
  have HO := hid hown'
  have ct1 := (hB.cell (p := ⟨tb, toff + i, none⟩) htb).trans ct
  clear hown hown' hgr hgr' hmv hB c0 ct
  cases hj : jmpB op
  · have ht := HNO.out hj
    subst ht
    have HR := hid (HE0.out hj)
    clear hj
    go_wp2_with fail
    go_quiet (fail)
    go_wp2_with fail
    go_ret
    rw [HR.out]
    exact ⟨_, rfl, HO.out, ListB.below_drewN HB.out _⟩
  · have ht := HY.out hj
    have hd : decide ((0 : Int) ≤ t) = true := by simpa using ht
    by_cases he : t = (i : Int) + 1
    · have HR := hid (HE1.out hj he)
      subst he
      have hb0 : ((i : Int) + 1 != (i : Int) + 1) = false := by simp
      clear hj
      go_wp2_with fail
      go_quiet (fail)
      go_wp2_with fail
      go_ret
      rw [HR.out]
      exact ⟨_, rfl, HO.out, ListB.below_drewN HB.out _⟩
    · have HR := hid (HE2.out hj he)
      have hb0 : ((i : Int) + 1 != t) = true := by simpa using fun e => he e.symm
      clear hj he
      go_wp2_with fail
      go_quiet (fail)
      go_wp2_with (at_builtin; refine wpList_appI _ rfl _ _ rfl w.heap.size (.slice (some ⟨g, 0, none⟩) 1 c) 1 [(i : Int) + 1] rfl (World.ownsRow.alloc HO.out _) _ _ t rfl (new_cell rfl rfl) (by omega) (by have := HB.out.size; simp; omega) ?_)
      intro v2 w2 hown2 hgr2 _
      have HP := hid (show OwnI w ([(i : Int) + 1] ++ [t]) (.returned v2) w2 from ⟨v2, rfl, hown2, ((ListB.below_drewN HB.out _).alloc HB.out.size (.cells #[.int .i64 t] 3)).grown hgr2 (by have := HB.out.size; simp; omega) (fun q hq => (HO.out.lt q hq).1)⟩)
      clear hown2 hgr2
      go_wp2_with fail
      go_ret
      rw [HR.out]
      exact HP.out
theorem rnext_any (b off n cap tb toff tn tc : Nat) (l : List In) (i : Nat) (x : In) (t : Int) (w : World) (h : RNIn w b off n tb toff tn l i x t) (hn : n ≤ 1000) :
    Calls Try.prog 20 #[.slice (some ⟨b, off, none⟩) n cap, .slice (some ⟨tb, toff, none⟩) tn tc, .int .i64 i] w (OwnI w (nxI x.op i t)) := by
  by_cases h1 : x.op = 149
  · exact rnext_few b off n cap tb toff tn tc l i x t w h (Or.inl h1)
  · by_cases h2 : x.op = 5
    · exact rnext_few b off n cap tb toff tn tc l i x t w h (Or.inr h2)
    · exact rnext_more b off n cap tb toff tn tc l i x t w h hn h1 h2
end Go.Proofs.Ytfmdljnagkjhdaa.Flow
