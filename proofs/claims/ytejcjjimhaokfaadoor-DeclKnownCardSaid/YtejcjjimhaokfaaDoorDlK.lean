/-
  The walk of the law DeclChecks.
-/
import Derived.Test.YtejcjjimhaokfaaDoorDlW
namespace Go.Proofs.YtejcjjimhaokfaaDoor.Dcl
open Go.RowKit Go.Proofs.YtejcjjimhaokfaaDoor.Num Go.Proofs.YtejcjjimhaokfaaDoor.ListB Go.Proofs.YtejcjjimhaokfaaDoor.Up Go.Proofs.YtejcjjimhaokfaaDoor.Tn
theorem sameN_any (a b : Option Addr) (n ca cb : Nat) (za : List In) (w : World) (hn : n ≤ 9223372036854775807) (h1 : ArgN w a n za) (h2 : ArgN w b n za) :
    Calls Tryd.prog 12 #[.slice a n ca, .slice b n cb] w (SamePost true w) := by
  by_cases h0 : 0 < n
  · obtain ⟨b1, o1, rfl, _, k1⟩ := h1.2 h0
    obtain ⟨b2, o2, rfl, _, k2⟩ := h2.2 h0
    have := sameN_row b1 b2 o1 o2 n ca cb za za w hn h1.1 h2.1 k1 k2
    rw [decide_eq_true rfl] at this
    exact this
  · obtain rfl : n = 0 := by omega
    exact sameN_empty a b ca cb w
theorem declChecks_any (a : Option Addr) (len cap : Nat) (L : List Dc) (w : World) (h : ArgN w a len (L.map Dc.di)) (hl : len ≤ 9223372036854775807) (hT : Tab w) :
    Calls Tryd.prog 3 #[.slice a len cap] w fun e w' => e = .returned (.bool true) ∧ Below w.heap.size w w' := by
  have HA := hid h
  have HT := hid hT
  clear h hT
  by_cases h100 : 100 < len
  · have h1 : (100 : Int) < (len : Int) := by omega
    go_enter Tryd.func3, Tryd.ntmps3
    go_wp2_with fail
    refine (law_works_any w HT.out).mono ?_
    rintro e w1 ⟨rfl, hb1⟩
    have HB1 := hid hb1
    clear hb1
    go_wp2_with fail
    go_ret
    exact ⟨rfl, HB1.out⟩
  · have h1 : ¬ ((100 : Int) < (len : Int)) := by omega
    have hll : (L.map Dc.di).length = len := HA.out.1
    go_enter Tryd.func3, Tryd.ntmps3
    go_wp2_with fail
    refine (copyN_any a len cap (L.map Dc.di) w HA.out (by omega)).mono ?_
    rintro e w1 ⟨v, rfl, hown1, hb1⟩
    rw [hll] at hown1
    obtain ⟨xa, xc, rfl, hxa⟩ := own_argN hown1
    have HX := hid hxa
    have HB1 := hid hb1
    clear hown1 hxa hb1 hll
    go_wp2_with fail
    refine (check_any L xa len xc w1 HX.out (HT.out.up HB1.out)).mono ?_
    rintro e w2 ⟨rfl, hb2⟩
    have HX2 := hid (HX.out.up hb2)
    have HB2 := hid (HB1.out.trans (hb2.mono HB1.out.size))
    clear hb2
    rw [chk_is]
    go_wp2_with fail
    refine (rcheck_any L a len cap w2 (HA.out.up HB2.out)).mono ?_
    rintro e w3 ⟨rfl, hb3⟩
    have HX3 := hid (HX2.out.up hb3)
    have HB3 := hid (HB2.out.trans (hb3.mono HB2.out.size))
    clear hb3
    obtain ⟨r, hr⟩ : ∃ r, ti (chkR L) = r := ⟨_, rfl⟩
    rw [hr]
    clear hr
    go_wp2_with fail
    refine (sameN_any xa a len xc cap (L.map Dc.di) w3 hl HX3.out (HA.out.up HB3.out)).mono ?_
    rintro e w4 ⟨rfl, m, rfl⟩
    have HB4 := hid (below_drewN HB3.out m)
    go_wp2_with fail
    refine (law_works_any _ (HT.out.up HB4.out)).mono ?_
    rintro e w5 ⟨rfl, hb5⟩
    have HB5 := hid (HB4.out.trans (hb5.mono HB4.out.size))
    clear hb5
    go_wp2_with fail
    go_ret
    exact ⟨rfl, HB5.out⟩
theorem declChecks (a : Option Addr) (len cap : Nat) (L : List Dc) {w : World} (g : ArgN w a len (L.map Dc.di) ∧ len ≤ cap ∧ cap ≤ 9223372036854775807) (w' : World) (hT : Tab w') (hw : w' = w := by rfl) :
    Calls Tryd.prog 3 #[.slice a len cap] w' fun e w'' => e = .returned (.bool true) ∧ Below w'.heap.size w' w'' := by
  subst hw
  exact declChecks_any a len cap L _ g.1 (by omega) hT
end Go.Proofs.YtejcjjimhaokfaaDoor.Dcl
