/-
  The contract of flow's successors.
-/
import Derived.Test.YtpknnmnknaaccaaFlC
namespace Go.Proofs.Ytpknnmnknaaccaa.Flow
open Go.RowKit Go.Proofs.Ytpknnmnknaaccaa.Num Go.Proofs.Ytpknnmnknaaccaa.ListB Go.Proofs.Ytpknnmnknaaccaa.Insn
set_option maxHeartbeats 2000000 in
/-- The program's Next, of an instruction that is there. -/
theorem next_any (a : Option Addr) (len cap : Nat) (l : List In) (tv : Value) (ts : List Int) (i : Nat) (w : World) (h : ArgN w a len l) (ht : ArgI w tv ts) (hl : len ≤ 1000) (hi : i < len) (hit : i < ts.length) (htl : ts.length ≤ 1000) :
    Calls Try.prog 19 #[.slice a len cap, tv, .int .i64 i] w (OwnI w (nxI (at' l i).op i (ts.getD i 0))) := by
  obtain ⟨b, off, rfl, hb, hr⟩ := h.2 (by omega)
  obtain ⟨ta, tc, rfl, htr⟩ := ht
  obtain ⟨tb, toff, rfl, htb, htc⟩ := htr (by omega)
  obtain ⟨x, hx⟩ : ∃ x, l[i]? = some x := ⟨_, List.getElem?_eq_getElem (by rw [h.1]; exact hi)⟩
  rw [at_some hx]
  obtain ⟨c0, c1, c2, c3, c4⟩ := hr i x hx
  have ct := htc i hit
  generalize ts.getD i 0 = t at ct ⊢
  generalize ts.length = tn at *
  have HJ := hid (fun w => jumps_any x w)
  obtain ⟨op, d, s, o, m⟩ := x
  unfold insnV at HJ
  simp only at c0 c1 c2 c3 c4 HJ ⊢
  clear hx h hr htr htc
  have hi0 : ¬ ((i : Int) < 0) := by omega
  have hi1 : ¬ ((len : Int) ≤ (i : Int)) := by omega
  have hi2 : ¬ ((tn : Int) ≤ (i : Int)) := by omega
  have HB0 := hid (below_new w (.cells #[.int .i64 op, .int .i64 d, .int .i64 s, .int .i64 o, .int .i64 m] 35))
  by_cases h1 : op = 149
  · subst h1
    rw [nxI_exit]
    go_enter Try.func19, Try.ntmps19
    go_wp2_with (go_at_call 43; refine (distinct_nil _ _ _).mono ?_; rintro e w' ⟨rfl, rfl⟩)
    go_ret
    exact ⟨_, rfl, World.ownsRow_nil _ _ _ _, HB0.out⟩
  · have b1 : (op == 149) = false := by simpa using h1
    by_cases h2 : op = 5
    · subst h2
      rw [nxI_always]
      clear h1 b1
      go_enter Try.func19, Try.ntmps19
      go_wp2_with fail
      refine (distinct_any _ [t] _ (by simp) (argI_new1 _ _ _ _ (by simp))).mono ?_
      rintro e w2 ⟨v, rfl, ho, hb2⟩
      have HO := hid (OwnI.from (w := w) ⟨v, rfl, ho, hb2⟩ (HB0.out.alloc HB0.out.size _))
      clear ho hb2
      go_wp2_with fail
      go_ret
      exact HO.out
    · have b2 : (op == 5) = false := by simpa using h2
      cases hj : jmpB op
      · rw [nxI_plain op i t h1 h2 hj]
        rw [hj] at HJ
        clear h1 h2 hj
        go_enter Try.func19, Try.ntmps19
        go_wp2_with fail
        refine (HJ.out _).mono ?_
        rintro e w1 ⟨rfl, hb1⟩
        have HB1 := hid (HB0.out.trans (hb1.mono HB0.out.size))
        clear hb1
        go_wp2_with fail
        refine (distinct_any _ [(i : Int) + 1] _ (by simp) (argI_new1 _ _ _ _ (by simp))).mono ?_
        rintro e w2 ⟨v, rfl, ho, hb2⟩
        have HO := hid (OwnI.from (w := w) ⟨v, rfl, ho, hb2⟩ (HB1.out.alloc HB1.out.size _))
        clear ho hb2
        go_wp2_with fail
        go_ret
        exact HO.out
      · rw [nxI_jump op i t h1 h2 hj]
        rw [hj] at HJ
        clear h1 h2 hj
        go_enter Try.func19, Try.ntmps19
        go_wp2_with fail
        refine (HJ.out _).mono ?_
        rintro e w1 ⟨rfl, hb1⟩
        have HB1 := hid (HB0.out.trans (hb1.mono HB0.out.size))
        have ct1 := (HB1.out.cell (p := ⟨tb, toff + i, none⟩) (show tb < _ from htb)).trans ct
        clear hb1
        go_wp2_with fail
        refine (distinct_any _ [(i : Int) + 1, t] _ (by simp) (argI_new2 _ _ _ _ _ (by simp))).mono ?_
        rintro e w2 ⟨v, rfl, ho, hb2⟩
        have HO := hid (OwnI.from (w := w) ⟨v, rfl, ho, hb2⟩ (HB1.out.alloc HB1.out.size _))
        clear ho hb2
        go_wp2_with fail
        go_ret
        exact HO.out
end Go.Proofs.Ytpknnmnknaaccaa.Flow
