/-
  The walk of the law FlowPlaces, where all is right.
-/
import Derived.Test.YtpknnmnknaaccaaFlM
namespace Go.Proofs.Ytpknnmnknaaccaa.Flow
open Go.RowKit Go.Proofs.Ytpknnmnknaaccaa.Num Go.Proofs.Ytpknnmnknaaccaa.ListB Go.Proofs.Ytpknnmnknaaccaa.Insn Go.Proofs.Ytpknnmnknaaccaa.Up
theorem w64 (z : Int) (h : -9223372036854775808 ≤ z) (h' : z ≤ 9223372036854775807) : IntKind.wrap .i64 z = z := by rw [IntKind.wrap_i64]; omega
theorem tgI_at {l : List In} {k : Nat} (hj : jmpB (at' l k).op = true) (h : 0 ≤ tgI l k) : ∃ t : Nat, tgI l k = t ∧ t < l.length ∧ (plc l t : Int) = wantP l k := by
  unfold tgI at h ⊢
  rw [hj] at h ⊢
  cases hf : findP l (wantP l k) with
  | none => rw [hf] at h; simp [orNo] at h
  | some t =>
    obtain ⟨h1, h2⟩ := findP_some hf
    exact ⟨t, rfl, h1, h2⟩
set_option maxRecDepth 100000 in
set_option maxHeartbeats 2000000 in
theorem flowPlaces_ok (a : Option Addr) (n cap : Nat) (l : List In) (w : World) (h : ArgN w a n l) (hwf : WfL l) (hm : n ≤ 9223372036854775807) (hb : bigB l = false) (he : errF l = 0) :
    Calls Try.prog 5 #[.slice a n cap] w fun e w' => e = .returned (.bool true) ∧ Below w.heap.size w w' := by
  obtain ⟨hle, hok⟩ := big_no hb
  have hln := h.1
  rw [hln] at hle
  have HA := hid h
  have HN := hid hln
  have HB := hid (big_any a n cap l w h hwf hm)
  rw [hb] at HB
  have HO := hid (ok_off hok)
  have HPG := hid (fun k (h : k < n) => plL_get l k (by rw [HN.out]; exact h))
  have HTG := hid (fun k (h : k < n) => tgL_get l k (by rw [HN.out]; exact h))
  have HPS := hid (fun k x (hx : l[k]? = some x) => plc_succ hx)
  have HPB := hid (fun k (h : k ≤ n) => plc_le l k (by rw [HN.out]; exact h))
  have HPN := hid (show (plL l).length = n by rw [plL_length, HN.out])
  have HTN := hid (show (tgL l).length = n by rw [tgL_length, HN.out])
  have HT := hid (plc_zero l)
  have HOE := hid (outF_ok he)
  have HL := hid (fun i (h : i < n) hj => (landB_iff l).1 (errF_ok he).1.land i (by rw [HN.out]; exact h) hj)
  have HER := hid he
  clear h hwf hb hok he hln
  go_enter Try.func5, Try.ntmps5
  go_wp2_with fail
  refine HB.out.mono ?_
  rintro e w1 ⟨rfl, hb1⟩
  have HB1 := hid hb1
  clear hb1
  go_wp2_with fail
  refine (places_any a n cap l w1 (HA.out.up HB1.out) (by omega)).mono ?_
  rintro e w2 ⟨v, rfl, hown, hb2⟩
  have HP := hid (own_argI hown)
  have HB2 := hid (HB1.out.trans (hb2.mono HB1.out.size))
  clear hown hb2
  go_wp2_with fail
  refine (targets_any a n cap l w2 (HA.out.up HB2.out) HO.out (by omega)).mono ?_
  rintro e w3 ⟨tv, rfl, hown, hb3⟩
  rw [HER.out]
  have HPP := hid (HP.out.up hb3)
  have HTT := hid (own_argI hown)
  have HB3 := hid (HB2.out.trans (hb3.mono HB2.out.size))
  clear hown hb3 HP
  obtain ⟨pa, pc, hv, hpr⟩ := HPP.out
  subst hv
  rw [HOE.out] at HTT
  obtain ⟨ta, tc, hv, htr⟩ := HTT.out
  subst hv
  have HPR := hid hpr
  have HTR := hid htr
  clear hpr htr
  rw [HPN.out] at HPR ⊢
  rw [HTN.out] at HTR ⊢
  go_wp2_with fail
  go_loopw [6, 7] (fun p i wr => ∃ k : Nat, k ≤ n ∧ p = .int .i64 (plc l k : Nat) ∧ i = .int .i64 k ∧ Below w3.heap.size w3 wr) (fun _ i _ => n - (intOf i).toNat)
  case atStart => exact ⟨0, Nat.zero_le _, by rw [HT.out]; rfl, rfl, Below.refl _ _⟩
  case round =>
    obtain ⟨k, hk, rfl, rfl, hbel⟩ := hrel
    by_cases hlt : k < n
    · obtain ⟨x, hx⟩ : ∃ x, l[k]? = some x := ⟨_, List.getElem?_eq_getElem (by rw [HN.out]; exact hlt)⟩
      obtain ⟨b, off, rfl, hb, hc⟩ := HA.out.2 (by omega)
      obtain ⟨pb, po, rfl, hpb, hpc⟩ := HPR.out (by omega)
      obtain ⟨tb, toff, rfl, htb, htc⟩ := HTR.out (by omega)
      have hbel3 := HB3.out.trans (hbel.mono HB3.out.size)
      obtain ⟨c0, c1, c2, c3, c4⟩ := (hc.below hbel3 hb) k x hx
      have cp := (hbel.cell (show pb < _ from hpb)).trans (hpc k hlt)
      rw [HPG.out k hlt] at cp
      have hsz := hbel.size
      have hsz3 := hbel3.size
      have FX := hid (fun x' (hx' : Below wr.heap.size wr x') => (hc.below (hbel3.trans (hx'.mono hsz3)) hb) k x hx)
      have FP := hid (fun x' (hx' : Below wr.heap.size wr x') => ((hbel.trans (hx'.mono hsz)).cell (show pb < _ from hpb)).trans (hpc k hlt))
      have FT := hid (fun x' (hx' : Below wr.heap.size wr x') => ((hbel.trans (hx'.mono hsz)).cell (show tb < _ from htb)).trans (htc k hlt))
      have FPA := hid (fun x' (hx' : Below wr.heap.size wr x') m (hm : m < n) => ((hbel.trans (hx'.mono hsz)).cell (show pb < _ from hpb)).trans (hpc m hm))
      rw [HPG.out k hlt] at FP
      rw [HTG.out k hlt] at FT
      have hps := HPS.out k x hx
      have hpk := HPB.out k (by omega)
      have hoff := HO.out k x hx
      have HAT := hid (at_some hx)
      have HJ := hid (fun w => jumps_any x w)
      have HW := hid (show wantP l k = (plc l k : Int) + 1 + x.o by unfold wantP; rw [HAT.out])
      have HBB := hid hbel
      obtain ⟨p, hp⟩ : ∃ p, plc l k = p := ⟨_, rfl⟩
      rw [hp] at hps hpk cp FP HW ⊢
      obtain ⟨j, hj⟩ : ∃ j, jmpB x.op = j := ⟨_, rfl⟩
      rw [hj] at HJ
      have HJJ := hid (show jmpB (at' l k).op = j by rw [HAT.out]; exact hj)
      have HXX := hid hx
      have hw1 : IntKind.wrap .i64 ((p : Int) + 1) = (p : Int) + 1 := w64 _ (by omega) (by omega)
      have hw2 : IntKind.wrap .i64 ((p : Int) + 1 + x.o) = (p : Int) + 1 + x.o := w64 _ (by omega) (by omega)
      have hk0 : (0 : Int) ≤ (k : Int) := by omega
      have hk1 : (k : Int) < (n : Int) := by omega
      clear hx hb hc hpb hpc htb htc hp hbel hbel3 hj hsz3 hsz
      obtain ⟨xo, xd, xs, xf, xm⟩ := x
      unfold insnV at HJ
      simp only at c0 c1 c2 c3 c4 HJ FX hps hoff HW hw2
      have HPS' : Hid (plc l (k + 1) = p + if xo = 24 then 2 else 1) := hid hps
      clear hps
      by_cases h24 : xo = 24
      · subst h24
        rw [if_pos rfl] at HPS'
        clear c1 c2 c3 c4
        cases j
        · have hT := tgI_no HJJ.out
          rw [hT] at FT
          clear hT
          have ht2 : ¬ ((n : Int) ≤ -1) := by omega
          go_upto_region 17 with fail
          refine up_begin (fun x => Below wr.heap.size wr x) 48 rfl (by kernel_rfl) ((Below.refl _ _).drew) ?_
          refine take_val (i := 0) (ups_below (Nat.le_refl _)) rfl rfl (by kernel_rfl) (fun _ _ _ h => h) (by rfl) (by intro x hx; go_simp; (first | done | exact rfl)) ?_
          simp only [List.set_cons_succ, List.set_cons_zero]
          refine take_val (i := 1) (ups_below (Nat.le_refl _)) rfl rfl (by kernel_rfl) (fun _ _ _ h => h) (by rfl) (by intro x hx; go_simp; (first | done | exact rfl)) ?_
          simp only [List.set_cons_succ, List.set_cons_zero]
          refine take_val (i := 2) (ups_below (Nat.le_refl _)) rfl rfl (by kernel_rfl) (fun _ _ _ h => h) (by rfl) (by intro x hx; go_simp; (first | done | exact rfl)) ?_
          simp only [List.set_cons_succ, List.set_cons_zero]
          refine take_val (i := 3) (ups_below (Nat.le_refl _)) rfl rfl (by kernel_rfl) (fun _ _ _ h => h) (by rfl) (by intro x hx; obtain ⟨f0, f1, f2, f3, f4⟩ := FX.out x hx; go_simp; (first | done | exact rfl)) ?_
          simp only [List.set_cons_succ, List.set_cons_zero]
          refine take_call (i := 4) (f := 17) (args := #[.agg #[.int .i64 24, .int .i64 xd, .int .i64 xs, .int .i64 xf, .int .i64 xm]]) (ups_below (Nat.le_refl _)) rfl rfl (by kernel_rfl) (fun _ _ _ h => h) (by rfl) (fun x hx => by kernel_rfl) (by intro x hx; exact HJ.out _) ?_
          simp only [List.set_cons_succ, List.set_cons_zero]
          refine take_val (i := 5) (ups_below (Nat.le_refl _)) rfl rfl (by kernel_rfl) (fun _ _ _ h => h) (by rfl) (by intro x hx; go_simp; (first | done | exact rfl)) ?_
          simp only [List.set_cons_succ, List.set_cons_zero]
          refine take_val (i := 6) (ups_below (Nat.le_refl _)) rfl rfl (by kernel_rfl) (fun _ _ _ h => h) (by rfl) (by intro x hx; go_simp; (first | done | exact rfl)) ?_
          simp only [List.set_cons_succ, List.set_cons_zero]
          refine take_val (i := 7) (ups_below (Nat.le_refl _)) rfl rfl (by kernel_rfl) (fun _ _ _ h => h) (by rfl) (by intro x hx; go_simp; (first | done | exact rfl)) ?_
          simp only [List.set_cons_succ, List.set_cons_zero]
          refine take_val (i := 8) (ups_below (Nat.le_refl _)) rfl rfl (by kernel_rfl) (fun _ _ _ h => h) (by rfl) (by intro x hx; have f0 := FT.out x hx; go_simp; (first | done | exact rfl)) ?_
          simp only [List.set_cons_succ, List.set_cons_zero]
          refine take_val (i := 9) (ups_below (Nat.le_refl _)) rfl rfl (by kernel_rfl) (fun _ _ _ h => h) (by rfl) (by intro x hx; go_simp; (first | done | exact rfl)) ?_
          simp only [List.set_cons_succ, List.set_cons_zero]
          refine take_val (i := 10) (ups_below (Nat.le_refl _)) rfl rfl (by kernel_rfl) (fun _ _ _ h => h) (by rfl) (by intro x hx; go_simp; (first | done | exact rfl)) ?_
          simp only [List.set_cons_succ, List.set_cons_zero]
          refine take_val (i := 11) (ups_below (Nat.le_refl _)) rfl rfl (by kernel_rfl) (fun _ _ _ h => h) (by rfl) (by intro x hx; go_simp; (first | done | exact rfl)) ?_
          simp only [List.set_cons_succ, List.set_cons_zero]
          refine take_val (i := 12) (ups_below (Nat.le_refl _)) rfl rfl (by kernel_rfl) (fun _ _ _ h => h) (by rfl) (by intro x hx; go_simp; (first | done | exact rfl)) ?_
          simp only [List.set_cons_succ, List.set_cons_zero]
          refine take_val (i := 13) (ups_below (Nat.le_refl _)) rfl rfl (by kernel_rfl) (fun _ _ _ h => h) (by rfl) (by intro x hx; go_simp; (first | done | exact rfl)) ?_
          simp only [List.set_cons_succ, List.set_cons_zero]
          refine take_val (i := 14) (ups_below (Nat.le_refl _)) rfl rfl (by kernel_rfl) (fun _ _ _ h => h) (by rfl) (by intro x hx; go_simp; (first | done | exact rfl)) ?_
          simp only [List.set_cons_succ, List.set_cons_zero]
          refine take_val (i := 15) (ups_below (Nat.le_refl _)) rfl rfl (by kernel_rfl) (fun _ _ _ h => h) (by rfl) (by intro x hx; have f0 := FT.out x hx; go_simp; (first | done | exact rfl)) ?_
          simp only [List.set_cons_succ, List.set_cons_zero]
          refine take_val (i := 16) (ups_below (Nat.le_refl _)) rfl rfl (by kernel_rfl) (fun _ _ _ h => h) (by rfl) (by intro x hx; go_simp; (first | done | exact rfl)) ?_
          simp only [List.set_cons_succ, List.set_cons_zero]
          refine take_val (i := 17) (ups_below (Nat.le_refl _)) rfl rfl (by kernel_rfl) (fun _ _ _ h => h) (by rfl) (by intro x hx; go_simp; (first | done | exact rfl)) ?_
          simp only [List.set_cons_succ, List.set_cons_zero]
          refine take_val (i := 18) (ups_below (Nat.le_refl _)) rfl rfl (by kernel_rfl) (fun _ _ _ h => h) (by rfl) (by intro x hx; go_simp; (first | done | exact rfl)) ?_
          simp only [List.set_cons_succ, List.set_cons_zero]
          refine take_val (i := 19) (ups_below (Nat.le_refl _)) rfl rfl (by kernel_rfl) (fun _ _ _ h => h) (by rfl) (by intro x hx; go_simp; (first | done | exact rfl)) ?_
          simp only [List.set_cons_succ, List.set_cons_zero]
          refine take_val (i := 20) (ups_below (Nat.le_refl _)) rfl rfl (by kernel_rfl) (fun _ _ _ h => h) (by rfl) (by intro x hx; go_simp; (first | done | exact rfl)) ?_
          simp only [List.set_cons_succ, List.set_cons_zero]
          refine take_val (i := 21) (ups_below (Nat.le_refl _)) rfl rfl (by kernel_rfl) (fun _ _ _ h => h) (by rfl) (by intro x hx; go_simp; (first | done | exact rfl)) ?_
          simp only [List.set_cons_succ, List.set_cons_zero]
          refine take_val (i := 22) (ups_below (Nat.le_refl _)) rfl rfl (by kernel_rfl) (fun _ _ _ h => h) (by rfl) (by intro x hx; go_simp; (first | done | exact rfl)) ?_
          simp only [List.set_cons_succ, List.set_cons_zero]
          refine take_val (i := 23) (ups_below (Nat.le_refl _)) rfl rfl (by kernel_rfl) (fun _ _ _ h => h) (by rfl) (by intro x hx; go_simp; (first | done | exact rfl)) ?_
          simp only [List.set_cons_succ, List.set_cons_zero]
          refine take_val (i := 24) (ups_below (Nat.le_refl _)) rfl rfl (by kernel_rfl) (fun _ _ _ h => h) (by rfl) (by intro x hx; have f0 := FT.out x hx; go_simp; (first | done | exact rfl)) ?_
          simp only [List.set_cons_succ, List.set_cons_zero]
          refine take_val (i := 25) (ups_below (Nat.le_refl _)) rfl rfl (by kernel_rfl) (fun _ _ _ h => h) (by rfl) (by intro x hx; go_simp; (first | done | exact rfl)) ?_
          simp only [List.set_cons_succ, List.set_cons_zero]
          refine take_val (i := 26) (ups_below (Nat.le_refl _)) rfl rfl (by kernel_rfl) (fun _ _ _ h => h) (by rfl) (by intro x hx; go_simp; (first | done | exact rfl)) ?_
          simp only [List.set_cons_succ, List.set_cons_zero]
          refine take_no (i := 27) (ups_below (Nat.le_refl _)) rfl rfl (by kernel_rfl) (fun _ _ _ h => h) (by kernel_rfl) ?_
          simp only [List.set_cons_succ, List.set_cons_zero]
          refine take_no (i := 28) (ups_below (Nat.le_refl _)) rfl rfl (by kernel_rfl) (fun _ _ _ h => h) (by kernel_rfl) ?_
          simp only [List.set_cons_succ, List.set_cons_zero]
          refine take_no (i := 29) (ups_below (Nat.le_refl _)) rfl rfl (by kernel_rfl) (fun _ _ _ h => h) (by kernel_rfl) ?_
          simp only [List.set_cons_succ, List.set_cons_zero]
          refine take_no (i := 30) (ups_below (Nat.le_refl _)) rfl rfl (by kernel_rfl) (fun _ _ _ h => h) (by kernel_rfl) ?_
          simp only [List.set_cons_succ, List.set_cons_zero]
          refine take_no (i := 31) (ups_below (Nat.le_refl _)) rfl rfl (by kernel_rfl) (fun _ _ _ h => h) (by kernel_rfl) ?_
          simp only [List.set_cons_succ, List.set_cons_zero]
          refine take_no (i := 32) (ups_below (Nat.le_refl _)) rfl rfl (by kernel_rfl) (fun _ _ _ h => h) (by kernel_rfl) ?_
          simp only [List.set_cons_succ, List.set_cons_zero]
          refine take_no (i := 33) (ups_below (Nat.le_refl _)) rfl rfl (by kernel_rfl) (fun _ _ _ h => h) (by kernel_rfl) ?_
          simp only [List.set_cons_succ, List.set_cons_zero]
          refine take_no (i := 34) (ups_below (Nat.le_refl _)) rfl rfl (by kernel_rfl) (fun _ _ _ h => h) (by kernel_rfl) ?_
          simp only [List.set_cons_succ, List.set_cons_zero]
          refine take_no (i := 35) (ups_below (Nat.le_refl _)) rfl rfl (by kernel_rfl) (fun _ _ _ h => h) (by kernel_rfl) ?_
          simp only [List.set_cons_succ, List.set_cons_zero]
          refine take_no (i := 36) (ups_below (Nat.le_refl _)) rfl rfl (by kernel_rfl) (fun _ _ _ h => h) (by kernel_rfl) ?_
          simp only [List.set_cons_succ, List.set_cons_zero]
          refine take_no (i := 37) (ups_below (Nat.le_refl _)) rfl rfl (by kernel_rfl) (fun _ _ _ h => h) (by kernel_rfl) ?_
          simp only [List.set_cons_succ, List.set_cons_zero]
          refine take_no (i := 38) (ups_below (Nat.le_refl _)) rfl rfl (by kernel_rfl) (fun _ _ _ h => h) (by kernel_rfl) ?_
          simp only [List.set_cons_succ, List.set_cons_zero]
          refine take_no (i := 39) (ups_below (Nat.le_refl _)) rfl rfl (by kernel_rfl) (fun _ _ _ h => h) (by kernel_rfl) ?_
          simp only [List.set_cons_succ, List.set_cons_zero]
          refine take_no (i := 40) (ups_below (Nat.le_refl _)) rfl rfl (by kernel_rfl) (fun _ _ _ h => h) (by kernel_rfl) ?_
          simp only [List.set_cons_succ, List.set_cons_zero]
          refine take_no (i := 41) (ups_below (Nat.le_refl _)) rfl rfl (by kernel_rfl) (fun _ _ _ h => h) (by kernel_rfl) ?_
          simp only [List.set_cons_succ, List.set_cons_zero]
          refine take_no (i := 42) (ups_below (Nat.le_refl _)) rfl rfl (by kernel_rfl) (fun _ _ _ h => h) (by kernel_rfl) ?_
          simp only [List.set_cons_succ, List.set_cons_zero]
          refine take_no (i := 43) (ups_below (Nat.le_refl _)) rfl rfl (by kernel_rfl) (fun _ _ _ h => h) (by kernel_rfl) ?_
          simp only [List.set_cons_succ, List.set_cons_zero]
          refine take_no (i := 44) (ups_below (Nat.le_refl _)) rfl rfl (by kernel_rfl) (fun _ _ _ h => h) (by kernel_rfl) ?_
          simp only [List.set_cons_succ, List.set_cons_zero]
          refine take_no (i := 45) (ups_below (Nat.le_refl _)) rfl rfl (by kernel_rfl) (fun _ _ _ h => h) (by kernel_rfl) ?_
          simp only [List.set_cons_succ, List.set_cons_zero]
          refine take_val (i := 46) (ups_below (Nat.le_refl _)) rfl rfl (by kernel_rfl) (fun _ _ _ h => h) (by rfl) (by intro x hx; go_simp; (first | done | exact rfl)) ?_
          simp only [List.set_cons_succ, List.set_cons_zero]
          refine take_val (i := 47) (ups_below (Nat.le_refl _)) rfl rfl (by kernel_rfl) (fun _ _ _ h => h) (by rfl) (by intro x hx; go_simp; (first | done | exact rfl)) ?_
          simp only [List.set_cons_succ, List.set_cons_zero]
          refine take_done (by kernel_rfl) ?_ _
          intro x hx
          have HBX := hid hx
          clear hx
          go_wp2_with fail
          go_roundw
          case rel => exact ⟨k + 1, by omega, by rw [HPS'.out]; go_num, by go_num, HBB.out.trans (HBX.out.mono HBB.out.size)⟩
          case measure => simp [intOf]; omega
        · obtain ⟨t, ht, htl, hw⟩ := tgI_at HJJ.out (HL.out k hlt HJJ.out)
          rw [HN.out] at htl
          rw [HW.out] at hw
          have FPT := hid (fun x' hx' => FPA.out x' hx' t htl)
          rw [HPG.out t htl, hw] at FPT
          rw [ht] at FT
          clear hw ht
          have ht0 : (0 : Int) ≤ (t : Int) := by omega
          have ht1 : (t : Int) < (n : Int) := by omega
          have ht2 : ¬ ((n : Int) ≤ (t : Int)) := by omega
          go_upto_region 17 with fail
          refine up_begin (fun x => Below wr.heap.size wr x) 48 rfl (by kernel_rfl) ((Below.refl _ _).drew) ?_
          refine take_val (i := 0) (ups_below (Nat.le_refl _)) rfl rfl (by kernel_rfl) (fun _ _ _ h => h) (by rfl) (by intro x hx; go_simp; (first | done | exact rfl)) ?_
          simp only [List.set_cons_succ, List.set_cons_zero]
          refine take_val (i := 1) (ups_below (Nat.le_refl _)) rfl rfl (by kernel_rfl) (fun _ _ _ h => h) (by rfl) (by intro x hx; go_simp; (first | done | exact rfl)) ?_
          simp only [List.set_cons_succ, List.set_cons_zero]
          refine take_val (i := 2) (ups_below (Nat.le_refl _)) rfl rfl (by kernel_rfl) (fun _ _ _ h => h) (by rfl) (by intro x hx; go_simp; (first | done | exact rfl)) ?_
          simp only [List.set_cons_succ, List.set_cons_zero]
          refine take_val (i := 3) (ups_below (Nat.le_refl _)) rfl rfl (by kernel_rfl) (fun _ _ _ h => h) (by rfl) (by intro x hx; obtain ⟨f0, f1, f2, f3, f4⟩ := FX.out x hx; go_simp; (first | done | exact rfl)) ?_
          simp only [List.set_cons_succ, List.set_cons_zero]
          refine take_call (i := 4) (f := 17) (args := #[.agg #[.int .i64 24, .int .i64 xd, .int .i64 xs, .int .i64 xf, .int .i64 xm]]) (ups_below (Nat.le_refl _)) rfl rfl (by kernel_rfl) (fun _ _ _ h => h) (by rfl) (fun x hx => by kernel_rfl) (by intro x hx; exact HJ.out _) ?_
          simp only [List.set_cons_succ, List.set_cons_zero]
          refine take_val (i := 5) (ups_below (Nat.le_refl _)) rfl rfl (by kernel_rfl) (fun _ _ _ h => h) (by rfl) (by intro x hx; go_simp; (first | done | exact rfl)) ?_
          simp only [List.set_cons_succ, List.set_cons_zero]
          refine take_val (i := 6) (ups_below (Nat.le_refl _)) rfl rfl (by kernel_rfl) (fun _ _ _ h => h) (by rfl) (by intro x hx; go_simp; (first | done | exact rfl)) ?_
          simp only [List.set_cons_succ, List.set_cons_zero]
          refine take_val (i := 7) (ups_below (Nat.le_refl _)) rfl rfl (by kernel_rfl) (fun _ _ _ h => h) (by rfl) (by intro x hx; go_simp; (first | done | exact rfl)) ?_
          simp only [List.set_cons_succ, List.set_cons_zero]
          refine take_val (i := 8) (ups_below (Nat.le_refl _)) rfl rfl (by kernel_rfl) (fun _ _ _ h => h) (by rfl) (by intro x hx; have f0 := FT.out x hx; go_simp; (first | done | exact rfl)) ?_
          simp only [List.set_cons_succ, List.set_cons_zero]
          refine take_val (i := 9) (ups_below (Nat.le_refl _)) rfl rfl (by kernel_rfl) (fun _ _ _ h => h) (by rfl) (by intro x hx; go_simp; (first | done | exact rfl)) ?_
          simp only [List.set_cons_succ, List.set_cons_zero]
          refine take_val (i := 10) (ups_below (Nat.le_refl _)) rfl rfl (by kernel_rfl) (fun _ _ _ h => h) (by rfl) (by intro x hx; go_simp; (first | done | exact rfl)) ?_
          simp only [List.set_cons_succ, List.set_cons_zero]
          refine take_val (i := 11) (ups_below (Nat.le_refl _)) rfl rfl (by kernel_rfl) (fun _ _ _ h => h) (by rfl) (by intro x hx; go_simp; (first | done | exact rfl)) ?_
          simp only [List.set_cons_succ, List.set_cons_zero]
          refine take_val (i := 12) (ups_below (Nat.le_refl _)) rfl rfl (by kernel_rfl) (fun _ _ _ h => h) (by rfl) (by intro x hx; go_simp; (first | done | exact rfl)) ?_
          simp only [List.set_cons_succ, List.set_cons_zero]
          refine take_val (i := 13) (ups_below (Nat.le_refl _)) rfl rfl (by kernel_rfl) (fun _ _ _ h => h) (by rfl) (by intro x hx; go_simp; (first | done | exact rfl)) ?_
          simp only [List.set_cons_succ, List.set_cons_zero]
          refine take_val (i := 14) (ups_below (Nat.le_refl _)) rfl rfl (by kernel_rfl) (fun _ _ _ h => h) (by rfl) (by intro x hx; go_simp; (first | done | exact rfl)) ?_
          simp only [List.set_cons_succ, List.set_cons_zero]
          refine take_val (i := 15) (ups_below (Nat.le_refl _)) rfl rfl (by kernel_rfl) (fun _ _ _ h => h) (by rfl) (by intro x hx; have f0 := FT.out x hx; go_simp; (first | done | exact rfl)) ?_
          simp only [List.set_cons_succ, List.set_cons_zero]
          refine take_val (i := 16) (ups_below (Nat.le_refl _)) rfl rfl (by kernel_rfl) (fun _ _ _ h => h) (by rfl) (by intro x hx; go_simp; (first | done | exact rfl)) ?_
          simp only [List.set_cons_succ, List.set_cons_zero]
          refine take_val (i := 17) (ups_below (Nat.le_refl _)) rfl rfl (by kernel_rfl) (fun _ _ _ h => h) (by rfl) (by intro x hx; go_simp; (first | done | exact rfl)) ?_
          simp only [List.set_cons_succ, List.set_cons_zero]
          refine take_val (i := 18) (ups_below (Nat.le_refl _)) rfl rfl (by kernel_rfl) (fun _ _ _ h => h) (by rfl) (by intro x hx; go_simp; (first | done | exact rfl)) ?_
          simp only [List.set_cons_succ, List.set_cons_zero]
          refine take_val (i := 19) (ups_below (Nat.le_refl _)) rfl rfl (by kernel_rfl) (fun _ _ _ h => h) (by rfl) (by intro x hx; go_simp; (first | done | exact rfl)) ?_
          simp only [List.set_cons_succ, List.set_cons_zero]
          refine take_val (i := 20) (ups_below (Nat.le_refl _)) rfl rfl (by kernel_rfl) (fun _ _ _ h => h) (by rfl) (by intro x hx; go_simp; (first | done | exact rfl)) ?_
          simp only [List.set_cons_succ, List.set_cons_zero]
          refine take_val (i := 21) (ups_below (Nat.le_refl _)) rfl rfl (by kernel_rfl) (fun _ _ _ h => h) (by rfl) (by intro x hx; go_simp; (first | done | exact rfl)) ?_
          simp only [List.set_cons_succ, List.set_cons_zero]
          refine take_val (i := 22) (ups_below (Nat.le_refl _)) rfl rfl (by kernel_rfl) (fun _ _ _ h => h) (by rfl) (by intro x hx; go_simp; (first | done | exact rfl)) ?_
          simp only [List.set_cons_succ, List.set_cons_zero]
          refine take_val (i := 23) (ups_below (Nat.le_refl _)) rfl rfl (by kernel_rfl) (fun _ _ _ h => h) (by rfl) (by intro x hx; go_simp; (first | done | exact rfl)) ?_
          simp only [List.set_cons_succ, List.set_cons_zero]
          refine take_val (i := 24) (ups_below (Nat.le_refl _)) rfl rfl (by kernel_rfl) (fun _ _ _ h => h) (by rfl) (by intro x hx; have f0 := FT.out x hx; go_simp; (first | done | exact rfl)) ?_
          simp only [List.set_cons_succ, List.set_cons_zero]
          refine take_val (i := 25) (ups_below (Nat.le_refl _)) rfl rfl (by kernel_rfl) (fun _ _ _ h => h) (by rfl) (by intro x hx; go_simp; (first | done | exact rfl)) ?_
          simp only [List.set_cons_succ, List.set_cons_zero]
          refine take_val (i := 26) (ups_below (Nat.le_refl _)) rfl rfl (by kernel_rfl) (fun _ _ _ h => h) (by rfl) (by intro x hx; go_simp; (first | done | exact rfl)) ?_
          simp only [List.set_cons_succ, List.set_cons_zero]
          refine take_val (i := 27) (ups_below (Nat.le_refl _)) rfl rfl (by kernel_rfl) (fun _ _ _ h => h) (by rfl) (by intro x hx; go_simp; (first | done | exact rfl)) ?_
          simp only [List.set_cons_succ, List.set_cons_zero]
          refine take_val (i := 28) (ups_below (Nat.le_refl _)) rfl rfl (by kernel_rfl) (fun _ _ _ h => h) (by rfl) (by intro x hx; go_simp; (first | done | exact rfl)) ?_
          simp only [List.set_cons_succ, List.set_cons_zero]
          refine take_val (i := 29) (ups_below (Nat.le_refl _)) rfl rfl (by kernel_rfl) (fun _ _ _ h => h) (by rfl) (by intro x hx; go_simp; (first | done | exact rfl)) ?_
          simp only [List.set_cons_succ, List.set_cons_zero]
          refine take_val (i := 30) (ups_below (Nat.le_refl _)) rfl rfl (by kernel_rfl) (fun _ _ _ h => h) (by rfl) (by intro x hx; go_simp; (first | done | exact rfl)) ?_
          simp only [List.set_cons_succ, List.set_cons_zero]
          refine take_val (i := 31) (ups_below (Nat.le_refl _)) rfl rfl (by kernel_rfl) (fun _ _ _ h => h) (by rfl) (by intro x hx; have f0 := FT.out x hx; go_simp; (first | done | exact rfl)) ?_
          simp only [List.set_cons_succ, List.set_cons_zero]
          refine take_val (i := 32) (ups_below (Nat.le_refl _)) rfl rfl (by kernel_rfl) (fun _ _ _ h => h) (by rfl) (by intro x hx; go_simp; (first | done | exact rfl)) ?_
          simp only [List.set_cons_succ, List.set_cons_zero]
          refine take_val (i := 33) (ups_below (Nat.le_refl _)) rfl rfl (by kernel_rfl) (fun _ _ _ h => h) (by rfl) (by intro x hx; have f0 := FPT.out x hx; go_simp; (first | done | exact rfl)) ?_
          simp only [List.set_cons_succ, List.set_cons_zero]
          refine take_val (i := 34) (ups_below (Nat.le_refl _)) rfl rfl (by kernel_rfl) (fun _ _ _ h => h) (by rfl) (by intro x hx; go_simp; (first | done | exact rfl)) ?_
          simp only [List.set_cons_succ, List.set_cons_zero]
          refine take_val (i := 35) (ups_below (Nat.le_refl _)) rfl rfl (by kernel_rfl) (fun _ _ _ h => h) (by rfl) (by intro x hx; go_simp; (first | done | exact rfl)) ?_
          simp only [List.set_cons_succ, List.set_cons_zero]
          refine take_val (i := 36) (ups_below (Nat.le_refl _)) rfl rfl (by kernel_rfl) (fun _ _ _ h => h) (by rfl) (by intro x hx; go_simp; (first | done | exact rfl)) ?_
          simp only [List.set_cons_succ, List.set_cons_zero]
          refine take_val (i := 37) (ups_below (Nat.le_refl _)) rfl rfl (by kernel_rfl) (fun _ _ _ h => h) (by rfl) (by intro x hx; have f0 := FP.out x hx; go_simp; (first | done | exact rfl)) ?_
          simp only [List.set_cons_succ, List.set_cons_zero]
          refine take_val (i := 38) (ups_below (Nat.le_refl _)) rfl rfl (by kernel_rfl) (fun _ _ _ h => h) (by rfl) (by intro x hx; go_simp; (first | done | exact rfl)) ?_
          simp only [List.set_cons_succ, List.set_cons_zero]
          refine take_val (i := 39) (ups_below (Nat.le_refl _)) rfl rfl (by kernel_rfl) (fun _ _ _ h => h) (by rfl) (by intro x hx; go_simp; (first | done | exact rfl)) ?_
          simp only [List.set_cons_succ, List.set_cons_zero]
          refine take_val (i := 40) (ups_below (Nat.le_refl _)) rfl rfl (by kernel_rfl) (fun _ _ _ h => h) (by rfl) (by intro x hx; go_simp; (first | done | exact rfl)) ?_
          simp only [List.set_cons_succ, List.set_cons_zero]
          refine take_val (i := 41) (ups_below (Nat.le_refl _)) rfl rfl (by kernel_rfl) (fun _ _ _ h => h) (by rfl) (by intro x hx; go_simp; (first | done | exact rfl)) ?_
          simp only [List.set_cons_succ, List.set_cons_zero]
          refine take_val (i := 42) (ups_below (Nat.le_refl _)) rfl rfl (by kernel_rfl) (fun _ _ _ h => h) (by rfl) (by intro x hx; go_simp; (first | done | exact rfl)) ?_
          simp only [List.set_cons_succ, List.set_cons_zero]
          refine take_val (i := 43) (ups_below (Nat.le_refl _)) rfl rfl (by kernel_rfl) (fun _ _ _ h => h) (by rfl) (by intro x hx; obtain ⟨f0, f1, f2, f3, f4⟩ := FX.out x hx; go_simp; (first | done | exact rfl)) ?_
          simp only [List.set_cons_succ, List.set_cons_zero]
          refine take_val (i := 44) (ups_below (Nat.le_refl _)) rfl rfl (by kernel_rfl) (fun _ _ _ h => h) (by rfl) (by intro x hx; go_simp; (first | done | exact rfl)) ?_
          simp only [List.set_cons_succ, List.set_cons_zero]
          refine take_val (i := 45) (ups_below (Nat.le_refl _)) rfl rfl (by kernel_rfl) (fun _ _ _ h => h) (by rfl) (by intro x hx; go_simp; (first | done | exact rfl)) ?_
          simp only [List.set_cons_succ, List.set_cons_zero]
          refine take_val (i := 46) (ups_below (Nat.le_refl _)) rfl rfl (by kernel_rfl) (fun _ _ _ h => h) (by rfl) (by intro x hx; go_simp; (first | done | exact rfl)) ?_
          simp only [List.set_cons_succ, List.set_cons_zero]
          refine take_val (i := 47) (ups_below (Nat.le_refl _)) rfl rfl (by kernel_rfl) (fun _ _ _ h => h) (by rfl) (by intro x hx; go_simp; (first | done | exact rfl)) ?_
          simp only [List.set_cons_succ, List.set_cons_zero]
          refine take_done (by kernel_rfl) ?_ _
          intro x hx
          have HBX := hid hx
          clear hx
          go_wp2_with fail
          go_roundw
          case rel => exact ⟨k + 1, by omega, by rw [HPS'.out]; go_num, by go_num, HBB.out.trans (HBX.out.mono HBB.out.size)⟩
          case measure => simp [intOf]; omega
      · have hb24 : (xo == 24) = false := by simpa using h24
        rw [if_neg h24] at HPS'
        clear h24
        clear c1 c2 c3 c4
        cases j
        · have hT := tgI_no HJJ.out
          rw [hT] at FT
          clear hT
          have ht2 : ¬ ((n : Int) ≤ -1) := by omega
          go_upto_region 17 with fail
          refine up_begin (fun x => Below wr.heap.size wr x) 48 rfl (by kernel_rfl) ((Below.refl _ _).drew) ?_
          refine take_val (i := 0) (ups_below (Nat.le_refl _)) rfl rfl (by kernel_rfl) (fun _ _ _ h => h) (by rfl) (by intro x hx; go_simp; (first | done | exact rfl)) ?_
          simp only [List.set_cons_succ, List.set_cons_zero]
          refine take_val (i := 1) (ups_below (Nat.le_refl _)) rfl rfl (by kernel_rfl) (fun _ _ _ h => h) (by rfl) (by intro x hx; go_simp; (first | done | exact rfl)) ?_
          simp only [List.set_cons_succ, List.set_cons_zero]
          refine take_val (i := 2) (ups_below (Nat.le_refl _)) rfl rfl (by kernel_rfl) (fun _ _ _ h => h) (by rfl) (by intro x hx; go_simp; (first | done | exact rfl)) ?_
          simp only [List.set_cons_succ, List.set_cons_zero]
          refine take_val (i := 3) (ups_below (Nat.le_refl _)) rfl rfl (by kernel_rfl) (fun _ _ _ h => h) (by rfl) (by intro x hx; obtain ⟨f0, f1, f2, f3, f4⟩ := FX.out x hx; go_simp; (first | done | exact rfl)) ?_
          simp only [List.set_cons_succ, List.set_cons_zero]
          refine take_call (i := 4) (f := 17) (args := #[.agg #[.int .i64 xo, .int .i64 xd, .int .i64 xs, .int .i64 xf, .int .i64 xm]]) (ups_below (Nat.le_refl _)) rfl rfl (by kernel_rfl) (fun _ _ _ h => h) (by rfl) (fun x hx => by kernel_rfl) (by intro x hx; exact HJ.out _) ?_
          simp only [List.set_cons_succ, List.set_cons_zero]
          refine take_val (i := 5) (ups_below (Nat.le_refl _)) rfl rfl (by kernel_rfl) (fun _ _ _ h => h) (by rfl) (by intro x hx; go_simp; (first | done | exact rfl)) ?_
          simp only [List.set_cons_succ, List.set_cons_zero]
          refine take_val (i := 6) (ups_below (Nat.le_refl _)) rfl rfl (by kernel_rfl) (fun _ _ _ h => h) (by rfl) (by intro x hx; go_simp; (first | done | exact rfl)) ?_
          simp only [List.set_cons_succ, List.set_cons_zero]
          refine take_val (i := 7) (ups_below (Nat.le_refl _)) rfl rfl (by kernel_rfl) (fun _ _ _ h => h) (by rfl) (by intro x hx; go_simp; (first | done | exact rfl)) ?_
          simp only [List.set_cons_succ, List.set_cons_zero]
          refine take_val (i := 8) (ups_below (Nat.le_refl _)) rfl rfl (by kernel_rfl) (fun _ _ _ h => h) (by rfl) (by intro x hx; have f0 := FT.out x hx; go_simp; (first | done | exact rfl)) ?_
          simp only [List.set_cons_succ, List.set_cons_zero]
          refine take_val (i := 9) (ups_below (Nat.le_refl _)) rfl rfl (by kernel_rfl) (fun _ _ _ h => h) (by rfl) (by intro x hx; go_simp; (first | done | exact rfl)) ?_
          simp only [List.set_cons_succ, List.set_cons_zero]
          refine take_val (i := 10) (ups_below (Nat.le_refl _)) rfl rfl (by kernel_rfl) (fun _ _ _ h => h) (by rfl) (by intro x hx; go_simp; (first | done | exact rfl)) ?_
          simp only [List.set_cons_succ, List.set_cons_zero]
          refine take_val (i := 11) (ups_below (Nat.le_refl _)) rfl rfl (by kernel_rfl) (fun _ _ _ h => h) (by rfl) (by intro x hx; go_simp; (first | done | exact rfl)) ?_
          simp only [List.set_cons_succ, List.set_cons_zero]
          refine take_val (i := 12) (ups_below (Nat.le_refl _)) rfl rfl (by kernel_rfl) (fun _ _ _ h => h) (by rfl) (by intro x hx; go_simp; (first | done | exact rfl)) ?_
          simp only [List.set_cons_succ, List.set_cons_zero]
          refine take_val (i := 13) (ups_below (Nat.le_refl _)) rfl rfl (by kernel_rfl) (fun _ _ _ h => h) (by rfl) (by intro x hx; go_simp; (first | done | exact rfl)) ?_
          simp only [List.set_cons_succ, List.set_cons_zero]
          refine take_val (i := 14) (ups_below (Nat.le_refl _)) rfl rfl (by kernel_rfl) (fun _ _ _ h => h) (by rfl) (by intro x hx; go_simp; (first | done | exact rfl)) ?_
          simp only [List.set_cons_succ, List.set_cons_zero]
          refine take_val (i := 15) (ups_below (Nat.le_refl _)) rfl rfl (by kernel_rfl) (fun _ _ _ h => h) (by rfl) (by intro x hx; have f0 := FT.out x hx; go_simp; (first | done | exact rfl)) ?_
          simp only [List.set_cons_succ, List.set_cons_zero]
          refine take_val (i := 16) (ups_below (Nat.le_refl _)) rfl rfl (by kernel_rfl) (fun _ _ _ h => h) (by rfl) (by intro x hx; go_simp; (first | done | exact rfl)) ?_
          simp only [List.set_cons_succ, List.set_cons_zero]
          refine take_val (i := 17) (ups_below (Nat.le_refl _)) rfl rfl (by kernel_rfl) (fun _ _ _ h => h) (by rfl) (by intro x hx; go_simp; (first | done | exact rfl)) ?_
          simp only [List.set_cons_succ, List.set_cons_zero]
          refine take_val (i := 18) (ups_below (Nat.le_refl _)) rfl rfl (by kernel_rfl) (fun _ _ _ h => h) (by rfl) (by intro x hx; go_simp; (first | done | exact rfl)) ?_
          simp only [List.set_cons_succ, List.set_cons_zero]
          refine take_val (i := 19) (ups_below (Nat.le_refl _)) rfl rfl (by kernel_rfl) (fun _ _ _ h => h) (by rfl) (by intro x hx; go_simp; (first | done | exact rfl)) ?_
          simp only [List.set_cons_succ, List.set_cons_zero]
          refine take_val (i := 20) (ups_below (Nat.le_refl _)) rfl rfl (by kernel_rfl) (fun _ _ _ h => h) (by rfl) (by intro x hx; go_simp; (first | done | exact rfl)) ?_
          simp only [List.set_cons_succ, List.set_cons_zero]
          refine take_val (i := 21) (ups_below (Nat.le_refl _)) rfl rfl (by kernel_rfl) (fun _ _ _ h => h) (by rfl) (by intro x hx; go_simp; (first | done | exact rfl)) ?_
          simp only [List.set_cons_succ, List.set_cons_zero]
          refine take_val (i := 22) (ups_below (Nat.le_refl _)) rfl rfl (by kernel_rfl) (fun _ _ _ h => h) (by rfl) (by intro x hx; go_simp; (first | done | exact rfl)) ?_
          simp only [List.set_cons_succ, List.set_cons_zero]
          refine take_val (i := 23) (ups_below (Nat.le_refl _)) rfl rfl (by kernel_rfl) (fun _ _ _ h => h) (by rfl) (by intro x hx; go_simp; (first | done | exact rfl)) ?_
          simp only [List.set_cons_succ, List.set_cons_zero]
          refine take_val (i := 24) (ups_below (Nat.le_refl _)) rfl rfl (by kernel_rfl) (fun _ _ _ h => h) (by rfl) (by intro x hx; have f0 := FT.out x hx; go_simp; (first | done | exact rfl)) ?_
          simp only [List.set_cons_succ, List.set_cons_zero]
          refine take_val (i := 25) (ups_below (Nat.le_refl _)) rfl rfl (by kernel_rfl) (fun _ _ _ h => h) (by rfl) (by intro x hx; go_simp; (first | done | exact rfl)) ?_
          simp only [List.set_cons_succ, List.set_cons_zero]
          refine take_val (i := 26) (ups_below (Nat.le_refl _)) rfl rfl (by kernel_rfl) (fun _ _ _ h => h) (by rfl) (by intro x hx; go_simp; (first | done | exact rfl)) ?_
          simp only [List.set_cons_succ, List.set_cons_zero]
          refine take_no (i := 27) (ups_below (Nat.le_refl _)) rfl rfl (by kernel_rfl) (fun _ _ _ h => h) (by kernel_rfl) ?_
          simp only [List.set_cons_succ, List.set_cons_zero]
          refine take_no (i := 28) (ups_below (Nat.le_refl _)) rfl rfl (by kernel_rfl) (fun _ _ _ h => h) (by kernel_rfl) ?_
          simp only [List.set_cons_succ, List.set_cons_zero]
          refine take_no (i := 29) (ups_below (Nat.le_refl _)) rfl rfl (by kernel_rfl) (fun _ _ _ h => h) (by kernel_rfl) ?_
          simp only [List.set_cons_succ, List.set_cons_zero]
          refine take_no (i := 30) (ups_below (Nat.le_refl _)) rfl rfl (by kernel_rfl) (fun _ _ _ h => h) (by kernel_rfl) ?_
          simp only [List.set_cons_succ, List.set_cons_zero]
          refine take_no (i := 31) (ups_below (Nat.le_refl _)) rfl rfl (by kernel_rfl) (fun _ _ _ h => h) (by kernel_rfl) ?_
          simp only [List.set_cons_succ, List.set_cons_zero]
          refine take_no (i := 32) (ups_below (Nat.le_refl _)) rfl rfl (by kernel_rfl) (fun _ _ _ h => h) (by kernel_rfl) ?_
          simp only [List.set_cons_succ, List.set_cons_zero]
          refine take_no (i := 33) (ups_below (Nat.le_refl _)) rfl rfl (by kernel_rfl) (fun _ _ _ h => h) (by kernel_rfl) ?_
          simp only [List.set_cons_succ, List.set_cons_zero]
          refine take_no (i := 34) (ups_below (Nat.le_refl _)) rfl rfl (by kernel_rfl) (fun _ _ _ h => h) (by kernel_rfl) ?_
          simp only [List.set_cons_succ, List.set_cons_zero]
          refine take_no (i := 35) (ups_below (Nat.le_refl _)) rfl rfl (by kernel_rfl) (fun _ _ _ h => h) (by kernel_rfl) ?_
          simp only [List.set_cons_succ, List.set_cons_zero]
          refine take_no (i := 36) (ups_below (Nat.le_refl _)) rfl rfl (by kernel_rfl) (fun _ _ _ h => h) (by kernel_rfl) ?_
          simp only [List.set_cons_succ, List.set_cons_zero]
          refine take_no (i := 37) (ups_below (Nat.le_refl _)) rfl rfl (by kernel_rfl) (fun _ _ _ h => h) (by kernel_rfl) ?_
          simp only [List.set_cons_succ, List.set_cons_zero]
          refine take_no (i := 38) (ups_below (Nat.le_refl _)) rfl rfl (by kernel_rfl) (fun _ _ _ h => h) (by kernel_rfl) ?_
          simp only [List.set_cons_succ, List.set_cons_zero]
          refine take_no (i := 39) (ups_below (Nat.le_refl _)) rfl rfl (by kernel_rfl) (fun _ _ _ h => h) (by kernel_rfl) ?_
          simp only [List.set_cons_succ, List.set_cons_zero]
          refine take_no (i := 40) (ups_below (Nat.le_refl _)) rfl rfl (by kernel_rfl) (fun _ _ _ h => h) (by kernel_rfl) ?_
          simp only [List.set_cons_succ, List.set_cons_zero]
          refine take_no (i := 41) (ups_below (Nat.le_refl _)) rfl rfl (by kernel_rfl) (fun _ _ _ h => h) (by kernel_rfl) ?_
          simp only [List.set_cons_succ, List.set_cons_zero]
          refine take_no (i := 42) (ups_below (Nat.le_refl _)) rfl rfl (by kernel_rfl) (fun _ _ _ h => h) (by kernel_rfl) ?_
          simp only [List.set_cons_succ, List.set_cons_zero]
          refine take_no (i := 43) (ups_below (Nat.le_refl _)) rfl rfl (by kernel_rfl) (fun _ _ _ h => h) (by kernel_rfl) ?_
          simp only [List.set_cons_succ, List.set_cons_zero]
          refine take_no (i := 44) (ups_below (Nat.le_refl _)) rfl rfl (by kernel_rfl) (fun _ _ _ h => h) (by kernel_rfl) ?_
          simp only [List.set_cons_succ, List.set_cons_zero]
          refine take_no (i := 45) (ups_below (Nat.le_refl _)) rfl rfl (by kernel_rfl) (fun _ _ _ h => h) (by kernel_rfl) ?_
          simp only [List.set_cons_succ, List.set_cons_zero]
          refine take_val (i := 46) (ups_below (Nat.le_refl _)) rfl rfl (by kernel_rfl) (fun _ _ _ h => h) (by rfl) (by intro x hx; go_simp; (first | done | exact rfl)) ?_
          simp only [List.set_cons_succ, List.set_cons_zero]
          refine take_val (i := 47) (ups_below (Nat.le_refl _)) rfl rfl (by kernel_rfl) (fun _ _ _ h => h) (by rfl) (by intro x hx; go_simp; (first | done | exact rfl)) ?_
          simp only [List.set_cons_succ, List.set_cons_zero]
          refine take_done (by kernel_rfl) ?_ _
          intro x hx
          have HBX := hid hx
          clear hx
          go_wp2_with fail
          go_roundw
          case rel => exact ⟨k + 1, by omega, by rw [HPS'.out]; go_num, by go_num, HBB.out.trans (HBX.out.mono HBB.out.size)⟩
          case measure => simp [intOf]; omega
        · obtain ⟨t, ht, htl, hw⟩ := tgI_at HJJ.out (HL.out k hlt HJJ.out)
          rw [HN.out] at htl
          rw [HW.out] at hw
          have FPT := hid (fun x' hx' => FPA.out x' hx' t htl)
          rw [HPG.out t htl, hw] at FPT
          rw [ht] at FT
          clear hw ht
          have ht0 : (0 : Int) ≤ (t : Int) := by omega
          have ht1 : (t : Int) < (n : Int) := by omega
          have ht2 : ¬ ((n : Int) ≤ (t : Int)) := by omega
          go_upto_region 17 with fail
          refine up_begin (fun x => Below wr.heap.size wr x) 48 rfl (by kernel_rfl) ((Below.refl _ _).drew) ?_
          refine take_val (i := 0) (ups_below (Nat.le_refl _)) rfl rfl (by kernel_rfl) (fun _ _ _ h => h) (by rfl) (by intro x hx; go_simp; (first | done | exact rfl)) ?_
          simp only [List.set_cons_succ, List.set_cons_zero]
          refine take_val (i := 1) (ups_below (Nat.le_refl _)) rfl rfl (by kernel_rfl) (fun _ _ _ h => h) (by rfl) (by intro x hx; go_simp; (first | done | exact rfl)) ?_
          simp only [List.set_cons_succ, List.set_cons_zero]
          refine take_val (i := 2) (ups_below (Nat.le_refl _)) rfl rfl (by kernel_rfl) (fun _ _ _ h => h) (by rfl) (by intro x hx; go_simp; (first | done | exact rfl)) ?_
          simp only [List.set_cons_succ, List.set_cons_zero]
          refine take_val (i := 3) (ups_below (Nat.le_refl _)) rfl rfl (by kernel_rfl) (fun _ _ _ h => h) (by rfl) (by intro x hx; obtain ⟨f0, f1, f2, f3, f4⟩ := FX.out x hx; go_simp; (first | done | exact rfl)) ?_
          simp only [List.set_cons_succ, List.set_cons_zero]
          refine take_call (i := 4) (f := 17) (args := #[.agg #[.int .i64 xo, .int .i64 xd, .int .i64 xs, .int .i64 xf, .int .i64 xm]]) (ups_below (Nat.le_refl _)) rfl rfl (by kernel_rfl) (fun _ _ _ h => h) (by rfl) (fun x hx => by kernel_rfl) (by intro x hx; exact HJ.out _) ?_
          simp only [List.set_cons_succ, List.set_cons_zero]
          refine take_val (i := 5) (ups_below (Nat.le_refl _)) rfl rfl (by kernel_rfl) (fun _ _ _ h => h) (by rfl) (by intro x hx; go_simp; (first | done | exact rfl)) ?_
          simp only [List.set_cons_succ, List.set_cons_zero]
          refine take_val (i := 6) (ups_below (Nat.le_refl _)) rfl rfl (by kernel_rfl) (fun _ _ _ h => h) (by rfl) (by intro x hx; go_simp; (first | done | exact rfl)) ?_
          simp only [List.set_cons_succ, List.set_cons_zero]
          refine take_val (i := 7) (ups_below (Nat.le_refl _)) rfl rfl (by kernel_rfl) (fun _ _ _ h => h) (by rfl) (by intro x hx; go_simp; (first | done | exact rfl)) ?_
          simp only [List.set_cons_succ, List.set_cons_zero]
          refine take_val (i := 8) (ups_below (Nat.le_refl _)) rfl rfl (by kernel_rfl) (fun _ _ _ h => h) (by rfl) (by intro x hx; have f0 := FT.out x hx; go_simp; (first | done | exact rfl)) ?_
          simp only [List.set_cons_succ, List.set_cons_zero]
          refine take_val (i := 9) (ups_below (Nat.le_refl _)) rfl rfl (by kernel_rfl) (fun _ _ _ h => h) (by rfl) (by intro x hx; go_simp; (first | done | exact rfl)) ?_
          simp only [List.set_cons_succ, List.set_cons_zero]
          refine take_val (i := 10) (ups_below (Nat.le_refl _)) rfl rfl (by kernel_rfl) (fun _ _ _ h => h) (by rfl) (by intro x hx; go_simp; (first | done | exact rfl)) ?_
          simp only [List.set_cons_succ, List.set_cons_zero]
          refine take_val (i := 11) (ups_below (Nat.le_refl _)) rfl rfl (by kernel_rfl) (fun _ _ _ h => h) (by rfl) (by intro x hx; go_simp; (first | done | exact rfl)) ?_
          simp only [List.set_cons_succ, List.set_cons_zero]
          refine take_val (i := 12) (ups_below (Nat.le_refl _)) rfl rfl (by kernel_rfl) (fun _ _ _ h => h) (by rfl) (by intro x hx; go_simp; (first | done | exact rfl)) ?_
          simp only [List.set_cons_succ, List.set_cons_zero]
          refine take_val (i := 13) (ups_below (Nat.le_refl _)) rfl rfl (by kernel_rfl) (fun _ _ _ h => h) (by rfl) (by intro x hx; go_simp; (first | done | exact rfl)) ?_
          simp only [List.set_cons_succ, List.set_cons_zero]
          refine take_val (i := 14) (ups_below (Nat.le_refl _)) rfl rfl (by kernel_rfl) (fun _ _ _ h => h) (by rfl) (by intro x hx; go_simp; (first | done | exact rfl)) ?_
          simp only [List.set_cons_succ, List.set_cons_zero]
          refine take_val (i := 15) (ups_below (Nat.le_refl _)) rfl rfl (by kernel_rfl) (fun _ _ _ h => h) (by rfl) (by intro x hx; have f0 := FT.out x hx; go_simp; (first | done | exact rfl)) ?_
          simp only [List.set_cons_succ, List.set_cons_zero]
          refine take_val (i := 16) (ups_below (Nat.le_refl _)) rfl rfl (by kernel_rfl) (fun _ _ _ h => h) (by rfl) (by intro x hx; go_simp; (first | done | exact rfl)) ?_
          simp only [List.set_cons_succ, List.set_cons_zero]
          refine take_val (i := 17) (ups_below (Nat.le_refl _)) rfl rfl (by kernel_rfl) (fun _ _ _ h => h) (by rfl) (by intro x hx; go_simp; (first | done | exact rfl)) ?_
          simp only [List.set_cons_succ, List.set_cons_zero]
          refine take_val (i := 18) (ups_below (Nat.le_refl _)) rfl rfl (by kernel_rfl) (fun _ _ _ h => h) (by rfl) (by intro x hx; go_simp; (first | done | exact rfl)) ?_
          simp only [List.set_cons_succ, List.set_cons_zero]
          refine take_val (i := 19) (ups_below (Nat.le_refl _)) rfl rfl (by kernel_rfl) (fun _ _ _ h => h) (by rfl) (by intro x hx; go_simp; (first | done | exact rfl)) ?_
          simp only [List.set_cons_succ, List.set_cons_zero]
          refine take_val (i := 20) (ups_below (Nat.le_refl _)) rfl rfl (by kernel_rfl) (fun _ _ _ h => h) (by rfl) (by intro x hx; go_simp; (first | done | exact rfl)) ?_
          simp only [List.set_cons_succ, List.set_cons_zero]
          refine take_val (i := 21) (ups_below (Nat.le_refl _)) rfl rfl (by kernel_rfl) (fun _ _ _ h => h) (by rfl) (by intro x hx; go_simp; (first | done | exact rfl)) ?_
          simp only [List.set_cons_succ, List.set_cons_zero]
          refine take_val (i := 22) (ups_below (Nat.le_refl _)) rfl rfl (by kernel_rfl) (fun _ _ _ h => h) (by rfl) (by intro x hx; go_simp; (first | done | exact rfl)) ?_
          simp only [List.set_cons_succ, List.set_cons_zero]
          refine take_val (i := 23) (ups_below (Nat.le_refl _)) rfl rfl (by kernel_rfl) (fun _ _ _ h => h) (by rfl) (by intro x hx; go_simp; (first | done | exact rfl)) ?_
          simp only [List.set_cons_succ, List.set_cons_zero]
          refine take_val (i := 24) (ups_below (Nat.le_refl _)) rfl rfl (by kernel_rfl) (fun _ _ _ h => h) (by rfl) (by intro x hx; have f0 := FT.out x hx; go_simp; (first | done | exact rfl)) ?_
          simp only [List.set_cons_succ, List.set_cons_zero]
          refine take_val (i := 25) (ups_below (Nat.le_refl _)) rfl rfl (by kernel_rfl) (fun _ _ _ h => h) (by rfl) (by intro x hx; go_simp; (first | done | exact rfl)) ?_
          simp only [List.set_cons_succ, List.set_cons_zero]
          refine take_val (i := 26) (ups_below (Nat.le_refl _)) rfl rfl (by kernel_rfl) (fun _ _ _ h => h) (by rfl) (by intro x hx; go_simp; (first | done | exact rfl)) ?_
          simp only [List.set_cons_succ, List.set_cons_zero]
          refine take_val (i := 27) (ups_below (Nat.le_refl _)) rfl rfl (by kernel_rfl) (fun _ _ _ h => h) (by rfl) (by intro x hx; go_simp; (first | done | exact rfl)) ?_
          simp only [List.set_cons_succ, List.set_cons_zero]
          refine take_val (i := 28) (ups_below (Nat.le_refl _)) rfl rfl (by kernel_rfl) (fun _ _ _ h => h) (by rfl) (by intro x hx; go_simp; (first | done | exact rfl)) ?_
          simp only [List.set_cons_succ, List.set_cons_zero]
          refine take_val (i := 29) (ups_below (Nat.le_refl _)) rfl rfl (by kernel_rfl) (fun _ _ _ h => h) (by rfl) (by intro x hx; go_simp; (first | done | exact rfl)) ?_
          simp only [List.set_cons_succ, List.set_cons_zero]
          refine take_val (i := 30) (ups_below (Nat.le_refl _)) rfl rfl (by kernel_rfl) (fun _ _ _ h => h) (by rfl) (by intro x hx; go_simp; (first | done | exact rfl)) ?_
          simp only [List.set_cons_succ, List.set_cons_zero]
          refine take_val (i := 31) (ups_below (Nat.le_refl _)) rfl rfl (by kernel_rfl) (fun _ _ _ h => h) (by rfl) (by intro x hx; have f0 := FT.out x hx; go_simp; (first | done | exact rfl)) ?_
          simp only [List.set_cons_succ, List.set_cons_zero]
          refine take_val (i := 32) (ups_below (Nat.le_refl _)) rfl rfl (by kernel_rfl) (fun _ _ _ h => h) (by rfl) (by intro x hx; go_simp; (first | done | exact rfl)) ?_
          simp only [List.set_cons_succ, List.set_cons_zero]
          refine take_val (i := 33) (ups_below (Nat.le_refl _)) rfl rfl (by kernel_rfl) (fun _ _ _ h => h) (by rfl) (by intro x hx; have f0 := FPT.out x hx; go_simp; (first | done | exact rfl)) ?_
          simp only [List.set_cons_succ, List.set_cons_zero]
          refine take_val (i := 34) (ups_below (Nat.le_refl _)) rfl rfl (by kernel_rfl) (fun _ _ _ h => h) (by rfl) (by intro x hx; go_simp; (first | done | exact rfl)) ?_
          simp only [List.set_cons_succ, List.set_cons_zero]
          refine take_val (i := 35) (ups_below (Nat.le_refl _)) rfl rfl (by kernel_rfl) (fun _ _ _ h => h) (by rfl) (by intro x hx; go_simp; (first | done | exact rfl)) ?_
          simp only [List.set_cons_succ, List.set_cons_zero]
          refine take_val (i := 36) (ups_below (Nat.le_refl _)) rfl rfl (by kernel_rfl) (fun _ _ _ h => h) (by rfl) (by intro x hx; go_simp; (first | done | exact rfl)) ?_
          simp only [List.set_cons_succ, List.set_cons_zero]
          refine take_val (i := 37) (ups_below (Nat.le_refl _)) rfl rfl (by kernel_rfl) (fun _ _ _ h => h) (by rfl) (by intro x hx; have f0 := FP.out x hx; go_simp; (first | done | exact rfl)) ?_
          simp only [List.set_cons_succ, List.set_cons_zero]
          refine take_val (i := 38) (ups_below (Nat.le_refl _)) rfl rfl (by kernel_rfl) (fun _ _ _ h => h) (by rfl) (by intro x hx; go_simp; (first | done | exact rfl)) ?_
          simp only [List.set_cons_succ, List.set_cons_zero]
          refine take_val (i := 39) (ups_below (Nat.le_refl _)) rfl rfl (by kernel_rfl) (fun _ _ _ h => h) (by rfl) (by intro x hx; go_simp; (first | done | exact rfl)) ?_
          simp only [List.set_cons_succ, List.set_cons_zero]
          refine take_val (i := 40) (ups_below (Nat.le_refl _)) rfl rfl (by kernel_rfl) (fun _ _ _ h => h) (by rfl) (by intro x hx; go_simp; (first | done | exact rfl)) ?_
          simp only [List.set_cons_succ, List.set_cons_zero]
          refine take_val (i := 41) (ups_below (Nat.le_refl _)) rfl rfl (by kernel_rfl) (fun _ _ _ h => h) (by rfl) (by intro x hx; go_simp; (first | done | exact rfl)) ?_
          simp only [List.set_cons_succ, List.set_cons_zero]
          refine take_val (i := 42) (ups_below (Nat.le_refl _)) rfl rfl (by kernel_rfl) (fun _ _ _ h => h) (by rfl) (by intro x hx; go_simp; (first | done | exact rfl)) ?_
          simp only [List.set_cons_succ, List.set_cons_zero]
          refine take_val (i := 43) (ups_below (Nat.le_refl _)) rfl rfl (by kernel_rfl) (fun _ _ _ h => h) (by rfl) (by intro x hx; obtain ⟨f0, f1, f2, f3, f4⟩ := FX.out x hx; go_simp; (first | done | exact rfl)) ?_
          simp only [List.set_cons_succ, List.set_cons_zero]
          refine take_val (i := 44) (ups_below (Nat.le_refl _)) rfl rfl (by kernel_rfl) (fun _ _ _ h => h) (by rfl) (by intro x hx; go_simp; (first | done | exact rfl)) ?_
          simp only [List.set_cons_succ, List.set_cons_zero]
          refine take_val (i := 45) (ups_below (Nat.le_refl _)) rfl rfl (by kernel_rfl) (fun _ _ _ h => h) (by rfl) (by intro x hx; go_simp; (first | done | exact rfl)) ?_
          simp only [List.set_cons_succ, List.set_cons_zero]
          refine take_val (i := 46) (ups_below (Nat.le_refl _)) rfl rfl (by kernel_rfl) (fun _ _ _ h => h) (by rfl) (by intro x hx; go_simp; (first | done | exact rfl)) ?_
          simp only [List.set_cons_succ, List.set_cons_zero]
          refine take_val (i := 47) (ups_below (Nat.le_refl _)) rfl rfl (by kernel_rfl) (fun _ _ _ h => h) (by rfl) (by intro x hx; go_simp; (first | done | exact rfl)) ?_
          simp only [List.set_cons_succ, List.set_cons_zero]
          refine take_done (by kernel_rfl) ?_ _
          intro x hx
          have HBX := hid hx
          clear hx
          go_wp2_with fail
          go_roundw
          case rel => exact ⟨k + 1, by omega, by rw [HPS'.out]; go_num, by go_num, HBB.out.trans (HBX.out.mono HBB.out.size)⟩
          case measure => simp [intOf]; omega
    · have hge : n ≤ k := by omega
      have HBB := hid (HB3.out.trans (hbel.mono HB3.out.size))
      clear hbel
      go_wp2_with fail
      refine (knownF_any _).mono ?_
      rintro e w4 ⟨rfl, hb4⟩
      have HB4 := hid (HBB.out.trans (hb4.mono HBB.out.size))
      clear hb4
      go_wp2_with fail
      go_ret
      exact ⟨rfl, HB4.out⟩
theorem flowPlaces (a : Option Addr) (n cap : Nat) (l : List In) (w : World) (h : ArgN w a n l) (hwf : WfL l) (hc : n ≤ cap) (hm : cap ≤ 9223372036854775807) :
    Calls Try.prog 5 #[.slice a n cap] w fun e w' => e = .returned (.bool true) ∧ Below w.heap.size w w' := by
  cases hb : bigB l
  · by_cases he : errF l = 0
    · exact flowPlaces_ok a n cap l w h hwf (by omega) hb he
    · exact flowPlaces_err a n cap l w h hwf (by omega) hb he
  · exact flowPlaces_big a n cap l w h hwf (by omega) hb
end Go.Proofs.Ytpknnmnknaaccaa.Flow
