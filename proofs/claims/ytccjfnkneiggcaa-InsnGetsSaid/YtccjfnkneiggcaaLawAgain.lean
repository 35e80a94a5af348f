/-
  The walk of the law InsnAgain: bytes that are got without error are put again as they were; what is cut is got, or is too short.
-/
import Derived.Test.YtccjfnkneiggcaaPick
namespace Go.Proofs.Ytccjfnkneiggcaa.Insn
open Go.RowKit Go.Proofs.Ytccjfnkneiggcaa.Num Go.Proofs.Ytccjfnkneiggcaa.ListB
theorem again_many (a0 : Option Addr) (len0 cap0 : Nat) (cut : Int) (w : World) (hl : 8192 < len0) :
    Calls Try.prog 7 #[.slice a0 len0 cap0, .int .i64 cut] w fun e w' => e = .returned (.bool true) ∧ Below w.heap.size w w' := by
  have hd : decide ((8192 : Int) < (len0 : Int)) = true := by simp; omega
  go_enter Try.func7, Try.ntmps7
  go_wp2_with fail
  refine (known_any _).mono ?_
  rintro e w1 ⟨rfl, hb⟩
  go_wp2_with fail
  go_ret
  exact ⟨rfl, hb⟩
theorem again_bad (a0 : Option Addr) (len0 cap0 : Nat) (cut : Int) (zs : List Int) (w : World) (h0 : Arg w a0 len0 zs) (hc : len0 ≤ cap0) (hm : cap0 ≤ 9223372036854775807) (hl : len0 ≤ 8192) (hbad : (getR zs).2 ≠ 0) :
    Calls Try.prog 7 #[.slice a0 len0 cap0, .int .i64 cut] w fun e w' => e = .returned (.bool true) ∧ Below w.heap.size w w' := by
  have hd : decide ((8192 : Int) < (len0 : Int)) = false := by simp; omega
  have HGG := hid (dget_any a0 len0 cap0 zs w h0 hc hm)
  unfold GetPost at HGG
  rw [getR_bad hbad] at HGG
  generalize (getR zs).2 = q at HGG hbad
  have hq : (q != 0) = true := by simpa using hbad
  clear hbad h0
  go_enter Try.func7, Try.ntmps7
  go_wp2_with fail
  refine HGG.out.mono ?_
  rintro e w1 ⟨v1, rfl, hown1, hb1⟩
  obtain ⟨A1, c1, rfl⟩ := ownB_shape hown1
  rw [List.length_nil]
  have HB1 := hid hb1
  clear hown1 hb1 HGG
  go_wp2_with fail
  refine (known_any _).mono ?_
  rintro e w2 ⟨rfl, hb2⟩
  have HB2 := hid (HB1.out.trans (hb2.mono HB1.out.size))
  clear hb2
  go_wp2_with fail
  go_ret
  exact ⟨rfl, HB2.out⟩
set_option maxHeartbeats 2000000 in
theorem again_row (b off len0 cap0 : Nat) (cut : Int) (zs : List Int) (l : List In) (w : World) (h0 : Arg w (some ⟨b, off, none⟩) len0 zs) (hb : b < w.heap.size) (hp : 0 < len0) (hc : len0 ≤ cap0) (hm : cap0 ≤ 9223372036854775807) (hl : len0 ≤ 8192) (hcut : (Lit.int .i64 cut).wf = true) (hg : getR zs = (l, 0)) :
    Calls Try.prog 7 #[.slice (some ⟨b, off, none⟩) len0 cap0, .int .i64 cut] w fun e w' => e = .returned (.bool true) ∧ Below w.heap.size w w' := by
  have hd : decide ((8192 : Int) < (len0 : Int)) = false := by simp; omega
  obtain ⟨hok, hbig, henc, hl256⟩ := getR_ok h0.2.1 hg
  have hwf := wfL_of hok hbig
  have hlp : 0 < l.length := by
    rcases Nat.eq_zero_or_pos l.length with e | e
    · have el : l = [] := List.length_eq_zero_iff.1 e
      rw [el] at henc
      have := h0.1
      rw [← henc] at this
      simp [enc] at this
      omega
    · exact e
  have HGG := hid (dget_any (some ⟨b, off, none⟩) len0 cap0 zs w h0 hc hm)
  unfold GetPost at HGG
  rw [hg] at HGG
  simp only at HGG
  have H0 := hid h0
  have HPE := hid (putErr_ok hl256 hok)
  have HPL := hid ((putL_ok HPE.out).trans henc)
  have HOK := hid hok
  have HWF := hid hwf
  have HCUT := hid (cut_again henc hok hbig hl256)
  have HZL := hid h0.1
  have HCW := hid hcut
  clear h0 hg hok hbig henc hwf hcut
  go_enter Try.func7, Try.ntmps7
  go_wp2_with fail
  refine HGG.out.mono ?_
  rintro e w1 ⟨v1, rfl, hown1, hb1⟩
  obtain ⟨g, c1, rfl⟩ := own_shapeG hown1 hlp
  have HO1 := hid hown1
  have HB1 := hid hb1
  have hs1 := hb1.size
  have HAN1 := hid (own_argN' hown1)
  have hq1 : l.length ≤ c1 := HAN1.out.2.1
  clear hown1 hb1 HGG
  go_wp2_with fail
  go_loopw [7] (fun i wr => ∃ k : Nat, k ≤ l.length ∧ i = .int .i64 k ∧ Below w1.heap.size w1 wr) (fun i _ => l.length - (intOf i).toNat)
  case atStart => exact ⟨0, Nat.zero_le _, rfl, Below.refl _ _⟩
  case round =>
    obtain ⟨k, hk, rfl, hbr⟩ := hrel
    have hs1r := hbr.size
    have HBR := hid hbr
    clear hbr
    have HANR := hid (HAN1.out.1.up HBR.out)
    by_cases hlt : k < l.length
    · obtain ⟨x, hx⟩ : ∃ x, l[k]? = some x := ⟨_, List.getElem?_eq_getElem hlt⟩
      obtain ⟨b', off', e', hb', hrow⟩ := HANR.out.2 hlp
      cases e'
      obtain ⟨d0, d1, d2, d3, d4⟩ := hrow k x hx
      rw [Nat.zero_add] at d0 d1 d2 d3 d4
      have hxc := HOK.out k x hx
      have hxw := HWF.out k x hx
      have HCK := hid (fun w => dcheck_any x.op x.d x.s x.o x.m w hxw.op)
      rw [show chkD x.op x.d x.s x.o x.m = 0 from (chk_eq _ _ _ _ _ (bounds_i64 hxw.m)).trans hxc] at HCK
      unfold insnV at HCK
      have hd4 : decide (k < l.length) = true := by simp; omega
      clear hrow hx hxc hxw
      go_wp2_with fail
      refine (HCK.out _).mono ?_
      rintro e w2 ⟨rfl, hb2⟩
      have HB2 := hid (HBR.out.trans (hb2.mono hs1r))
      clear hb2
      go_wp2_with fail
      go_roundw
      case rel => exact ⟨k + 1, by omega, by go_num, HB2.out⟩
      case measure => simp [intOf]; omega
    · have hkk : k = l.length := by omega
      have hd4 : decide (k < l.length) = false := by simp; omega
      have HPP := hid (dput_any (some ⟨g, 0, none⟩) l.length c1 l wr HANR.out (by omega) HWF.out)
      unfold PutPost at HPP
      rw [HPE.out, HPL.out] at HPP
      have HBW := hid (HB1.out.trans (HBR.out.mono hs1))
      clear hkk
      go_wp2_with fail
      refine HPP.out.mono ?_
      rintro e w3 ⟨v3, rfl, hown3, hb3⟩
      have HO3 := hid hown3
      have HB3 := hid (HBW.out.trans (hb3.mono HBW.out.size))
      have HB13 := hid (HBR.out.trans (hb3.mono hs1r))
      have hs3 := HB13.out.size
      clear hown3 hb3 HPP
      go_wp2_with fail
      refine (pick_any cut len0 w3 HCW.out (by omega)).mono ?_
      rintro e w' ⟨⟨ct, hct, rfl⟩, rfl⟩
      have HA3 := hid (H0.out.below HB3.out (fun _ _ e => by cases e; exact hb))
      have HGC := hid (dget_any (some ⟨b, off, none⟩) ct cap0 (zs.take ct) w3 (arg_take HA3.out (by omega) ct hct) (by omega) hm)
      unfold GetPost at HGC
      have HTL := hid (show (zs.take ct).length = ct by rw [List.length_take, HZL.out]; omega)
      rcases HCUT.out ct with ⟨q, hq, hgq, heq⟩ | hgq
      · rw [hgq] at HGC
        simp only at HGC
        have hql : (l.take q).length = q := by rw [List.length_take]; omega
        rw [hql] at HGC
        have HPE2 := hid (putErr_ok (show (l.take q).length ≤ 256 by omega) (allOk_take HOK.out q))
        have HPL2 := hid ((putL_ok HPE2.out).trans heq)
        clear hgq heq
        go_wp2_with fail
        refine HGC.out.mono ?_
        rintro e w4 ⟨v4, rfl, hown4, hb4⟩
        obtain ⟨A4, c4, rfl⟩ := ownB_shape hown4
        have HO4 := hid hown4
        have HB4 := hid (HB3.out.trans (hb4.mono HB3.out.size))
        have HB14 := hid (HB13.out.trans (hb4.mono hs3))
        have HO34 := hid (HO3.out.kept (grown_of2 hb4) (Classical.em _))
        have HAN4 := hid (own_argN' hown4)
        have HA4 := hid (H0.out.below HB4.out (fun _ _ e => by cases e; exact hb))
        have hs4 := hb4.size
        clear hown4 hb4 HGC
        have HS := hid (sameB_arg _ len0 v3 (some ⟨b, off, none⟩) cap0 zs w4 (by omega) (by have t := HO34.out; rw [HZL.out] at t; exact t) HA4.out)
        go_wp2_with fail
        refine HS.out.mono ?_
        rintro e w5 ⟨rfl, n1, rfl⟩
        have HPQ := hid (dput_any A4 q c4 (l.take q) (w4.drewN n1) (HAN4.out.1.up (ListB.below_drewN (Below.refl _ _) n1)) (by omega) (wfL_take HWF.out q))
        unfold PutPost at HPQ
        rw [HPE2.out, HPL2.out, HTL.out] at HPQ
        go_wp2_with fail
        refine HPQ.out.mono ?_
        rintro e w6 ⟨v6, rfl, hown6, hb6⟩
        obtain ⟨A6, c6, rfl⟩ := ownB_shape hown6
        have HB46 := hid ((ListB.below_drewN (Below.refl w4.heap.size w4) n1).trans (hb6.mono (by simp)))
        have HO46 := hid (HO4.out.kept (grown_of2 HB46.out) (Classical.em _))
        have HB16 := hid (HB14.out.trans (HB46.out.mono (by omega)))
        have HB6 := hid (HB4.out.trans (HB46.out.mono HB4.out.size))
        have HRW := hid (nrow_take (nrow_own (HO1.out.kept (grown_of2 HB16.out) (Classical.em _))) q)
        have HSN := hid (sameN_pre _ q (.slice A4 q c4) g 0 c1 (l.take q) w6 (by omega) HO46.out HRW.out)
        clear hown6 hb6 HPQ
        go_wp2_with fail
        refine HSN.out.mono ?_
        rintro e w7 ⟨rfl, n2, rfl⟩
        go_wp2_with fail
        refine (known_any _).mono ?_
        rintro e w8 ⟨rfl, hb8⟩
        have HB8 := hid ((ListB.below_drewN HB6.out n2).trans (hb8.mono HB6.out.size))
        clear hb8
        go_wp2_with fail
        go_ret
        exact ⟨rfl, HB8.out⟩
      · rw [hgq] at HGC
        simp only [List.length_nil] at HGC
        clear hgq
        go_wp2_with fail
        refine HGC.out.mono ?_
        rintro e w4 ⟨v4, rfl, hown4, hb4⟩
        obtain ⟨A4, c4, rfl⟩ := ownB_shape hown4
        have HB4 := hid (HB3.out.trans (hb4.mono HB3.out.size))
        have HO34 := hid (HO3.out.kept (grown_of2 hb4) (Classical.em _))
        have HA4 := hid (H0.out.below HB4.out (fun _ _ e => by cases e; exact hb))
        clear hown4 hb4 HGC
        have HS := hid (sameB_arg _ len0 v3 (some ⟨b, off, none⟩) cap0 zs w4 (by omega) (by have t := HO34.out; rw [HZL.out] at t; exact t) HA4.out)
        go_wp2_with fail
        refine HS.out.mono ?_
        rintro e w5 ⟨rfl, n1, rfl⟩
        go_wp2_with fail
        refine (known_any _).mono ?_
        rintro e w8 ⟨rfl, hb8⟩
        have HB8 := hid ((ListB.below_drewN HB4.out n1).trans (hb8.mono HB4.out.size))
        clear hb8
        go_wp2_with fail
        go_ret
        exact ⟨rfl, HB8.out⟩
theorem argE (w : World) (a : Option Addr) : Arg w a 0 [] := ⟨rfl, fun i => by simp, fun h => absurd h (by omega)⟩
theorem argNE (w : World) (a : Option Addr) : ArgN w a 0 [] := ⟨rfl, fun h => absurd h (by omega)⟩
set_option maxHeartbeats 2000000 in
theorem again_empty (a0 : Option Addr) (cap0 : Nat) (cut : Int) (w : World) (hnil : a0 = none → cap0 = 0) (hm : cap0 ≤ 9223372036854775807) (hcut : (Lit.int .i64 cut).wf = true) :
    Calls Try.prog 7 #[.slice a0 0 cap0, .int .i64 cut] w fun e w' => e = .returned (.bool true) ∧ Below w.heap.size w w' := by
  have HGG := hid (fun (a : Option Addr) (c : Nat) (w : World) (hm : c ≤ 9223372036854775807) => dget_any a 0 c [] w (argE w a) (Nat.zero_le _) hm)
  unfold GetPost at HGG
  rw [show getR [] = ([], 0) from rfl] at HGG
  have HPP := hid (fun (a : Option Addr) (c : Nat) (w : World) => dput_any a 0 c [] w (argNE w a) (by omega) (fun k x h => by simp at h))
  unfold PutPost at HPP
  rw [show putErr [] = 0 from rfl, show putL [] = [] from rfl] at HPP
  simp only [List.length_nil] at HGG HPP
  have HCW := hid hcut
  clear hcut
  cases a0 with
  | none =>
    obtain rfl := hnil rfl
    go_enter Try.func7, Try.ntmps7
    go_wp2_with fail
    refine (HGG.out _ _ _ hm).mono ?_
    rintro e w1 ⟨v1, rfl, hown1, hb1⟩
    have HB1 := hid hb1
    rcases hown1.2 with ⟨rfl, _⟩ | ⟨g, c1, cur, rfl, _⟩
    all_goals clear hown1 hb1
    all_goals
      go_wp2_with fail
      refine wp_loop_rounds 1 ?_
      rw [rounds_succ]
      go_wp2_with fail
      refine (HPP.out _ _ w1).mono ?_
      rintro e w3 ⟨v3, rfl, hown3, hb3⟩
      have HB3 := hid (HB1.out.trans (hb3.mono HB1.out.size))
      have HO3 := hid hown3
      clear hown3 hb3
      go_wp2_with fail
      refine (pick_any cut 0 w3 HCW.out (by omega)).mono ?_
      rintro e w' ⟨⟨ct, hct, rfl⟩, rfl⟩
      obtain rfl : ct = 0 := by omega
      go_wp2_with fail
      refine (HGG.out _ _ w3 hm).mono ?_
      rintro e w4 ⟨v4, rfl, hown4, hb4⟩
      obtain ⟨A4, c4, rfl⟩ := ownB_shape hown4
      have HB4 := hid (HB3.out.trans (hb4.mono HB3.out.size))
      have HO34 := hid (HO3.out.kept (grown_of2 hb4) (Classical.em _))
      clear hown4 hb4
      obtain ⟨A3, c3, rfl⟩ := ownB_shape HO34.out
      go_wp2_with fail
      refine (same_empty _ _ _ _ w4).mono ?_
      rintro e w5 ⟨rfl, n1, rfl⟩
      go_wp2_with fail
      refine (HPP.out _ _ _).mono ?_
      rintro e w6 ⟨v6, rfl, hown6, hb6⟩
      obtain ⟨A6, c6, rfl⟩ := ownB_shape hown6
      have HB6 := hid (HB4.out.trans (((ListB.below_drewN (Below.refl w4.heap.size w4) n1).trans (hb6.mono (by simp))).mono HB4.out.size))
      clear hown6 hb6
      go_wp2_with fail
      refine (sameN_empty _ _ _ _ w6).mono ?_
      rintro e w7 ⟨rfl, n2, rfl⟩
      go_wp2_with fail
      refine (known_any _).mono ?_
      rintro e w8 ⟨rfl, hb8⟩
      have HB8 := hid ((ListB.below_drewN HB6.out n2).trans (hb8.mono HB6.out.size))
      clear hb8
      go_wp2_with fail
      go_ret
      exact ⟨rfl, HB8.out⟩
  | some ad =>
    clear hnil
    go_enter Try.func7, Try.ntmps7
    go_wp2_with fail
    refine (HGG.out _ _ _ hm).mono ?_
    rintro e w1 ⟨v1, rfl, hown1, hb1⟩
    have HB1 := hid hb1
    rcases hown1.2 with ⟨rfl, _⟩ | ⟨g, c1, cur, rfl, _⟩
    all_goals clear hown1 hb1
    all_goals
      go_wp2_with fail
      refine wp_loop_rounds 1 ?_
      rw [rounds_succ]
      go_wp2_with fail
      refine (HPP.out _ _ w1).mono ?_
      rintro e w3 ⟨v3, rfl, hown3, hb3⟩
      have HB3 := hid (HB1.out.trans (hb3.mono HB1.out.size))
      have HO3 := hid hown3
      clear hown3 hb3
      go_wp2_with fail
      refine (pick_any cut 0 w3 HCW.out (by omega)).mono ?_
      rintro e w' ⟨⟨ct, hct, rfl⟩, rfl⟩
      obtain rfl : ct = 0 := by omega
      go_wp2_with fail
      refine (HGG.out _ _ w3 hm).mono ?_
      rintro e w4 ⟨v4, rfl, hown4, hb4⟩
      obtain ⟨A4, c4, rfl⟩ := ownB_shape hown4
      have HB4 := hid (HB3.out.trans (hb4.mono HB3.out.size))
      have HO34 := hid (HO3.out.kept (grown_of2 hb4) (Classical.em _))
      clear hown4 hb4
      obtain ⟨A3, c3, rfl⟩ := ownB_shape HO34.out
      go_wp2_with fail
      refine (same_empty _ _ _ _ w4).mono ?_
      rintro e w5 ⟨rfl, n1, rfl⟩
      go_wp2_with fail
      refine (HPP.out _ _ _).mono ?_
      rintro e w6 ⟨v6, rfl, hown6, hb6⟩
      obtain ⟨A6, c6, rfl⟩ := ownB_shape hown6
      have HB6 := hid (HB4.out.trans (((ListB.below_drewN (Below.refl w4.heap.size w4) n1).trans (hb6.mono (by simp))).mono HB4.out.size))
      clear hown6 hb6
      go_wp2_with fail
      refine (sameN_empty _ _ _ _ w6).mono ?_
      rintro e w7 ⟨rfl, n2, rfl⟩
      go_wp2_with fail
      refine (known_any _).mono ?_
      rintro e w8 ⟨rfl, hb8⟩
      have HB8 := hid ((ListB.below_drewN HB6.out n2).trans (hb8.mono HB6.out.size))
      clear hb8
      go_wp2_with fail
      go_ret
      exact ⟨rfl, HB8.out⟩
theorem insnAgain (a0 : Option Addr) (len0 cap0 : Nat) (cut : Int) (zs : List Int) (w : World) (h0 : Arg w a0 len0 zs) (hc : len0 ≤ cap0) (hm : cap0 ≤ 9223372036854775807) (hnil : a0 = none → cap0 = 0) (hcut : (Lit.int .i64 cut).wf = true) :
    Calls Try.prog 7 #[.slice a0 len0 cap0, .int .i64 cut] w fun e w' => e = .returned (.bool true) ∧ Below w.heap.size w w' := by
  by_cases hl : 8192 < len0
  · exact again_many a0 len0 cap0 cut w hl
  · by_cases he : (getR zs).2 = 0
    · rcases Nat.eq_zero_or_pos len0 with e | hp
      · subst e
        exact again_empty a0 cap0 cut w hnil hm hcut
      · obtain ⟨b, off, rfl, hb, _⟩ := h0.2.2 hp
        exact again_row b off len0 cap0 cut zs (getR zs).1 w h0 hb hp hc hm (by omega) hcut (Prod.ext rfl he)
    · exact again_bad a0 len0 cap0 cut zs w h0 hc hm (by omega) he
end Go.Proofs.Ytccjfnkneiggcaa.Insn
