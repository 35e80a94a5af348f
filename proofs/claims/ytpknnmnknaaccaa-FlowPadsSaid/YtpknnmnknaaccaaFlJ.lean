/-
  The contract of the laws' Big: more instructions than they go through, or one that may not be.
-/
import Derived.Test.YtpknnmnknaaccaaFlI
namespace Go.Proofs.Ytpknnmnknaaccaa.Flow
open Go.RowKit Go.Proofs.Ytpknnmnknaaccaa.Num Go.Proofs.Ytpknnmnknaaccaa.ListB Go.Proofs.Ytpknnmnknaaccaa.Insn
def bigB (l : List In) : Bool := if 270 < l.length then true else decide (firstErr l ≠ 0)
theorem big_no {l : List In} (h : bigB l = false) : l.length ≤ 270 ∧ AllOk l := by
  unfold bigB at h
  split at h
  · cases h
  · rename_i h1
    exact ⟨by omega, ok_firstErr (by simpa using h)⟩
theorem ok_off {l : List In} (h : AllOk l) : OffL l := fun k x hx => (fine_of (h k x hx)).o
theorem ok_op {l : List In} (h : AllOk l) (k : Nat) (x : In) (hx : l[k]? = some x) : 0 ≤ x.op ∧ x.op ≤ 255 := (fine_of (h k x hx)).op
set_option maxHeartbeats 2000000 in
theorem big_any (a : Option Addr) (n cap : Nat) (l : List In) (w : World) (h : ArgN w a n l) (hwf : WfL l) (hm : n ≤ 9223372036854775807) :
    Calls Try.prog 8 #[.slice a n cap] w fun e w' => e = .returned (.bool (bigB l)) ∧ Below w.heap.size w w' := by
  have HN := hid h.1
  by_cases h1 : 270 < n
  · have HP := hid (show bigB l = true by unfold bigB; rw [if_pos (by rw [HN.out]; exact h1)])
    clear h
    go_enter Try.func8, Try.ntmps8
    go_wp2_with fail
    go_ret
    exact ⟨by rw [HP.out]; rfl, Below.refl _ _⟩
  have HA := hid h
  have HW := hid hwf
  have HY := hid (fun k x (hok : AllOk (l.take k)) (hx : l[k]? = some x) (hc : x.chk ≠ 0) => (show bigB l = true by unfold bigB; rw [if_neg (by rw [HN.out]; exact h1), firstErr_at hok hx hc]; simpa using hc))
  have HG := hid (fun (hok : AllOk l) => (show bigB l = false by unfold bigB; rw [if_neg (by rw [HN.out]; exact h1), firstErr_ok hok]; rfl))
  clear h hwf
  go_enter Try.func8, Try.ntmps8
  go_wp2
  go_loopw [3] (fun i wr => ∃ k : Nat, k ≤ n ∧ i = .int .i64 k ∧ Hid (AllOk (l.take k)) ∧ Below w.heap.size w wr) (fun i _ => n - (intOf i).toNat)
  case atStart => exact ⟨0, Nat.zero_le _, rfl, hid allOk_nil, Below.refl _ _⟩
  case round =>
    obtain ⟨k, hk, rfl, hok, hbel⟩ := hrel
    by_cases hlt : k < n
    · obtain ⟨x, hx⟩ : ∃ x, l[k]? = some x := ⟨_, List.getElem?_eq_getElem (by rw [HN.out]; exact hlt)⟩
      obtain ⟨b, off, rfl, hb, hc⟩ := HA.out.2 (by omega)
      obtain ⟨c0, c1, c2, c3, c4⟩ := (hc.below hbel hb) k x hx
      have hxw := HW.out k x hx
      have HCK := hid (fun w => dcheck_any x.op x.d x.s x.o x.m w hxw.op)
      have hxe : chkD x.op x.d x.s x.o x.m = x.chk := chk_eq _ _ _ _ _ (bounds_i64 hxw.m)
      have HXE := hid hxe
      rw [HXE.out] at HCK
      have HX := hid hx
      have HB := hid hbel
      obtain ⟨q, hq⟩ : ∃ q, x.chk = q := ⟨_, rfl⟩
      rw [hq] at HCK
      have HQ := hid hq
      clear hx hxw hxe hc hb hq hbel
      obtain ⟨xo, xd, xs, xf, xm⟩ := x
      unfold insnV at HCK
      simp only at c0 c1 c2 c3 c4 HCK
      by_cases h0 : q = 0
      · subst h0
        go_wp2_with fail
        refine (HCK.out _).mono ?_
        rintro e w2 ⟨rfl, hb2⟩
        have HB2 := hid (HB.out.trans (hb2.mono HB.out.size))
        have HK := hid (allOk_snoc hok.out HX.out HQ.out)
        clear hb2 c0 c1 c2 c3 c4
        go_wp2_with fail
        go_roundw
        case rel => exact ⟨k + 1, by omega, by go_num, HK, HB2.out⟩
        case measure => simp [intOf]; omega
      · have hne : (q != 0) = true := by simpa using h0
        have HF := hid (HY.out k _ hok.out HX.out (by rw [HQ.out]; exact h0))
        clear h0
        go_wp2_with fail
        refine (HCK.out _).mono ?_
        rintro e w2 ⟨rfl, hb2⟩
        have HB2 := hid (HB.out.trans (hb2.mono HB.out.size))
        clear hb2 c0 c1 c2 c3 c4
        go_wp2_with fail
        go_ret
        exact ⟨by rw [HF.out]; rfl, HB2.out⟩
    · have hkk : k = n := by omega
      have HF := hid (HG.out (by have := hok.out; rw [hkk, List.take_of_length_le (by rw [HN.out]; omega)] at this; exact this))
      have hge : n ≤ k := by omega
      clear hkk
      go_wp2
      go_ret
      exact ⟨by rw [HF.out]; rfl, hbel⟩
end Go.Proofs.Ytpknnmnknaaccaa.Flow
