/-
  The walk of the law FlowPlaces: places rise by one, by two behind a wide one; a jump's target stands where it says.
-/
import Derived.Test.YtpknnmnknaaccaaFlK
namespace Go.Proofs.Ytpknnmnknaaccaa.Flow
open Go.RowKit Go.Proofs.Ytpknnmnknaaccaa.Num Go.Proofs.Ytpknnmnknaaccaa.ListB Go.Proofs.Ytpknnmnknaaccaa.Insn Go.Proofs.Ytpknnmnknaaccaa.Up
theorem flowPlaces_big (a : Option Addr) (n cap : Nat) (l : List In) (w : World) (h : ArgN w a n l) (hwf : WfL l) (hm : n ≤ 9223372036854775807) (hb : bigB l = true) :
    Calls Try.prog 5 #[.slice a n cap] w fun e w' => e = .returned (.bool true) ∧ Below w.heap.size w w' := by
  have HB := hid (big_any a n cap l w h hwf hm)
  rw [hb] at HB
  clear h hwf hb
  go_enter Try.func5, Try.ntmps5
  go_wp2_with fail
  refine HB.out.mono ?_
  rintro e w1 ⟨rfl, hb1⟩
  have HB1 := hid hb1
  clear hb1
  go_wp2_with fail
  refine (knownF_any _).mono ?_
  rintro e w2 ⟨rfl, hb2⟩
  have HB2 := hid (HB1.out.trans (hb2.mono HB1.out.size))
  clear hb2
  go_wp2_with fail
  go_ret
  exact ⟨rfl, HB2.out⟩
set_option maxRecDepth 100000 in
set_option maxHeartbeats 4000000 in
theorem flowPlaces_err (a : Option Addr) (n cap : Nat) (l : List In) (w : World) (h : ArgN w a n l) (hwf : WfL l) (hm : n ≤ 9223372036854775807) (hb : bigB l = false) (he : errF l ≠ 0) :
    Calls Try.prog 5 #[.slice a n cap] w fun e w' => e = .returned (.bool true) ∧ Below w.heap.size w w' := by
  obtain ⟨hle, hok⟩ := big_no hb
  have hln := h.1
  rw [hln] at hle
  have HA := hid h
  have HN := hid hln
  have HB := hid (big_any a n cap l w h hwf hm)
  rw [hb] at HB
  have HO := hid (ok_off hok)
  have HPG := hid (fun k (h : k < n) => plL_get l k (by rw [HN.out]; exact h))
  have HPS := hid (fun k x (hx : l[k]? = some x) => plc_succ hx)
  have HPB := hid (fun k (h : k ≤ n) => plc_le l k (by rw [HN.out]; exact h))
  have HPN := hid (show (plL l).length = n by rw [plL_length, HN.out])
  have HT := hid (plc_zero l)
  have HOE := hid (outF_err he)
  obtain ⟨er, her⟩ : ∃ er, errF l = er := ⟨_, rfl⟩
  have hne : (er != 0) = true := by rw [← her]; simpa using he
  have hne' : (er == 0) = false := by rw [← her]; simpa using he
  have HER := hid her
  clear h hwf hb hok he her hln
  go_enter Try.func5, Try.ntmps5
  go_wp2_with fail
  refine HB.out.mono ?_
  rintro e w1 ⟨rfl, hb1⟩
  have HB1 := hid hb1
  clear hb1
  go_wp2_with fail
  refine (places_any a n cap l w1 (HA.out.up HB1.out) (by omega)).mono ?_
  rintro e w2 ⟨v, rfl, hown, hb2⟩
  have HP := hid (own_argI hown)
  have HB2 := hid (HB1.out.trans (hb2.mono HB1.out.size))
  clear hown hb2
  go_wp2_with fail
  refine (targets_any a n cap l w2 (HA.out.up HB2.out) HO.out (by omega)).mono ?_
  rintro e w3 ⟨tv, rfl, hown, hb3⟩
  rw [HER.out]
  have HPP := hid (HP.out.up hb3)
  have HB3 := hid (HB2.out.trans (hb3.mono HB2.out.size))
  clear hown hb3 HP
  obtain ⟨pa, pc, hv, hpr⟩ := HPP.out
  subst hv
  have HPR := hid hpr
  clear hpr
  rw [HPN.out] at HPR ⊢
  go_wp2_with fail
  go_loopw [6, 7] (fun p i wr => ∃ k : Nat, k ≤ n ∧ p = .int .i64 (plc l k : Nat) ∧ i = .int .i64 k ∧ Below w3.heap.size w3 wr) (fun _ i _ => n - (intOf i).toNat)
  case atStart => exact ⟨0, Nat.zero_le _, by rw [HT.out]; rfl, rfl, Below.refl _ _⟩
  case round =>
    obtain ⟨k, hk, rfl, rfl, hbel⟩ := hrel
    by_cases hlt : k < n
    · obtain ⟨x, hx⟩ : ∃ x, l[k]? = some x := ⟨_, List.getElem?_eq_getElem (by rw [HN.out]; exact hlt)⟩
      obtain ⟨b, off, rfl, hb, hc⟩ := HA.out.2 (by omega)
      obtain ⟨c0, c1, c2, c3, c4⟩ := (hc.below (HB3.out.trans (hbel.mono HB3.out.size)) hb) k x hx
      obtain ⟨pb, po, rfl, hpb, hpc⟩ := HPR.out (by omega)
      have cp := (hbel.cell (show pb < _ from hpb)).trans (hpc k hlt)
      rw [HPG.out k hlt] at cp
      have hps := HPS.out k x hx
      have hpk := HPB.out k (by omega)
      have HBB := hid hbel
      obtain ⟨p, hp⟩ : ∃ p, plc l k = p := ⟨_, rfl⟩
      rw [hp] at hps hpk cp ⊢
      clear hx hb hc hpb hpc hp hbel
      obtain ⟨xo, xd, xs, xf, xm⟩ := x
      simp only at c0 c1 c2 c3 c4
      by_cases h24 : xo = 24
      · subst h24
        have HPS' := hid (show plc l (k + 1) = p + 2 from hps)
        clear hps
        go_wp2_with fail
        go_roundw
        case rel => exact ⟨k + 1, by omega, by rw [HPS'.out]; go_num, by go_num, HBB.out⟩
        case measure => simp [intOf]; omega
      · have hb24 : (xo == 24) = false := by simpa using h24
        have HPS' := hid (show plc l (k + 1) = p + 1 from by rw [hps]; simp [sz, h24])
        clear hps h24
        go_wp2_with fail
        go_roundw
        case rel => exact ⟨k + 1, by omega, by rw [HPS'.out]; go_num, by go_num, HBB.out⟩
        case measure => simp [intOf]; omega
    · have hge : n ≤ k := by omega
      have HBB := hid (HB3.out.trans (hbel.mono HB3.out.size))
      clear hbel
      go_wp2_with fail
      refine (knownF_any _).mono ?_
      rintro e w4 ⟨rfl, hb4⟩
      have HB4 := hid (HBB.out.trans (hb4.mono HBB.out.size))
      clear hb4
      go_wp2_with fail
      go_ret
      exact ⟨rfl, HB4.out⟩
end Go.Proofs.Ytpknnmnknaaccaa.Flow
