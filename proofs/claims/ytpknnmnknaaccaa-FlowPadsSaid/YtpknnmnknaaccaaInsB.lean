/-
  Contracts of the kit's lists of instructions: a comparison.
-/
import Derived.Test.YtpknnmnknaaccaaInsA
namespace Go.Proofs.Ytpknnmnknaaccaa.Insn
open Go.RowKit Go.Proofs.Ytpknnmnknaaccaa.Num Go.Proofs.Ytpknnmnknaaccaa.ListB
theorem sameN_len (a b : Option Addr) (la lb ca cb : Nat) (w : World) (hne : la ≠ lb) :
    Calls Try.prog 41 #[.slice a la ca, .slice b lb cb] w (SamePost false w) := by
  have hd : ((la : Int) != (lb : Int)) = true := by rw [bne_iff_ne]; omega
  go_enter Try.func41, Try.ntmps41
  go_wp2
  go_ret
  exact ⟨rfl, 0, rfl⟩
theorem sameN_empty (a b : Option Addr) (ca cb : Nat) (w : World) :
    Calls Try.prog 41 #[.slice a 0 ca, .slice b 0 cb] w (SamePost true w) := by
  go_enter Try.func41, Try.ntmps41
  go_wp2
  refine wp_loop_rounds 1 ?_
  rw [rounds_succ]
  go_wp2
  go_ret
  exact ⟨rfl, 0, rfl⟩
theorem extN (za zb : List In) (h1 : za.length = zb.length) (h : ∀ (j : Nat) (x y : In), za[j]? = some x → zb[j]? = some y → x = y) : za = zb := by
  apply List.ext_getElem h1
  intro j hj hj'
  exact h j _ _ (List.getElem?_eq_getElem hj) (List.getElem?_eq_getElem hj')
set_option maxHeartbeats 1000000 in
theorem sameN_row (a b oa ob n ca cb : Nat) (za zb : List In) (w : World) (n1 : n ≤ 9223372036854775807) (ha : za.length = n) (hb : zb.length = n) (hca : NRow w a oa za) (hcb : NRow w b ob zb) :
    Calls Try.prog 41 #[.slice (some ⟨a, oa, none⟩) n ca, .slice (some ⟨b, ob, none⟩) n cb] w (SamePost (decide (za = zb)) w) := by
  have HA := hid hca; have HB := hid hcb; have LA := hid ha; have LB := hid hb
  clear hca hcb ha hb
  go_enter Try.func41, Try.ntmps41
  go_wp2
  go_loopw [5] (fun i wr => ∃ k m : Nat, k ≤ n ∧ i = .int .i64 k ∧ Hid (∀ j x y, j < k → za[j]? = some x → zb[j]? = some y → x = y) ∧ wr = w.drewN m) (fun i _ => n - (intOf i).toNat)
  case atStart => exact ⟨0, 0, Nat.zero_le _, rfl, hid (fun j x y hj => by omega), rfl⟩
  case round =>
    obtain ⟨k, m, hk, rfl, HE, rfl⟩ := hrel
    by_cases hlt : k < n
    · obtain ⟨x, hx⟩ : ∃ x, za[k]? = some x := ⟨_, List.getElem?_eq_getElem (by rw [LA.out]; exact hlt)⟩
      obtain ⟨y, hy⟩ : ∃ x, zb[k]? = some x := ⟨_, List.getElem?_eq_getElem (by rw [LB.out]; exact hlt)⟩
      obtain ⟨c0, c1, c2, c3, c4⟩ := HA.out k x hx
      obtain ⟨d0, d1, d2, d3, d4⟩ := HB.out k y hy
      have hk0 : (0 : Int) ≤ (k : Int) := by omega
      have hk1 : (k : Int) < (n : Int) := by omega
      by_cases he : x = y
      · have hE2 : Hid (∀ j x y, j < k + 1 → za[j]? = some x → zb[j]? = some y → x = y) := hid fun j x' y' hj h1 h2 => by
          by_cases hjk : j = k
          · subst hjk; rw [hx] at h1; rw [hy] at h2; cases h1; cases h2; exact he
          · exact HE.out j x' y' (by omega) h1 h2
        clear hx hy
        subst he
        obtain ⟨xo, xd, xs, xf, xm⟩ := x
        simp only at c0 c1 c2 c3 c4 d0 d1 d2 d3 d4
        go_wp2
        go_quiet (fail)
        go_wp2
        go_roundw
        case rel => exact ⟨k + 1, _, by omega, by go_num, hE2, rfl⟩
        case measure => simp [intOf]; omega
      · have hne : decide (za = zb) = false := by rw [decide_eq_false_iff_not]; intro h; apply he; rw [h, hy] at hx; cases hx; rfl
        have Hne := hid hne
        have hbne : In.same x y = false := Bool.eq_false_iff.2 fun h => he ((same_iff x y).1 h)
        clear hx hy he hne
        obtain ⟨xo, xd, xs, xf, xm⟩ := x
        obtain ⟨yo, yd, ys, yf, ym⟩ := y
        simp only at c0 c1 c2 c3 c4 d0 d1 d2 d3 d4
        have hd : xo ≠ yo ∨ xo = yo ∧ (xd ≠ yd ∨ xd = yd ∧ (xs ≠ ys ∨ xs = ys ∧ (xf ≠ yf ∨ xf = yf ∧ xm ≠ ym))) := by
          unfold In.same at hbne
          simp at hbne
          by_cases e0 : xo = yo
          · by_cases e1 : xd = yd
            · by_cases e2 : xs = ys
              · by_cases e3 : xf = yf
                · exact Or.inr ⟨e0, Or.inr ⟨e1, Or.inr ⟨e2, Or.inr ⟨e3, hbne e0 e1 e2 e3⟩⟩⟩⟩
                · exact Or.inr ⟨e0, Or.inr ⟨e1, Or.inr ⟨e2, Or.inl e3⟩⟩⟩
              · exact Or.inr ⟨e0, Or.inr ⟨e1, Or.inl e2⟩⟩
            · exact Or.inr ⟨e0, Or.inl e1⟩
          · exact Or.inl e0
        clear hbne
        rcases hd with e | ⟨rfl, e | ⟨rfl, e | ⟨rfl, e | ⟨rfl, e⟩⟩⟩⟩
        · have b0 : (xo == yo) = false := by simpa using e
          clear e
          go_wp2
          go_quiet (fail)
          go_wp2
          go_ret
          exact ⟨by rw [Hne.out]; rfl, _, World.drewN_drewN _ _ _⟩
        · have b0 : (xd == yd) = false := by simpa using e
          clear e
          go_wp2
          go_quiet (fail)
          go_wp2
          go_ret
          exact ⟨by rw [Hne.out]; rfl, _, World.drewN_drewN _ _ _⟩
        · have b0 : (xs == ys) = false := by simpa using e
          clear e
          go_wp2
          go_quiet (fail)
          go_wp2
          go_ret
          exact ⟨by rw [Hne.out]; rfl, _, World.drewN_drewN _ _ _⟩
        · have b0 : (xf == yf) = false := by simpa using e
          clear e
          go_wp2
          go_quiet (fail)
          go_wp2
          go_ret
          exact ⟨by rw [Hne.out]; rfl, _, World.drewN_drewN _ _ _⟩
        · have b0 : (xm == ym) = false := by simpa using e
          clear e
          go_wp2
          go_quiet (fail)
          go_wp2
          go_ret
          exact ⟨by rw [Hne.out]; rfl, _, World.drewN_drewN _ _ _⟩
    · have hkn : k = n := by omega
      have hall : decide (za = zb) = true := by
        rw [decide_eq_true_eq]
        exact extN za zb (LA.out.trans LB.out.symm) (fun j x y h1 h2 => HE.out j x y (by rw [hkn, ← LA.out]; exact (List.getElem?_eq_some_iff.1 h1).1) h1 h2)
      have Hall := hid hall
      have hge : n ≤ k := by omega
      clear hkn hall
      go_wp2
      go_ret
      exact ⟨by rw [Hall.out]; rfl, _, rfl⟩
end Go.Proofs.Ytpknnmnknaaccaa.Insn
