/-
  The contract of the laws' back: does a jump lead to a place below the first one?
-/
import Derived.Test.YtpknnmnknaaccaaFpA
import Derived.Test.YtpknnmnknaaccaaFlK
import Derived.Test.YtpknnmnknaaccaaFlN
namespace Go.Proofs.Ytpknnmnknaaccaa.Flow
open Go.RowKit Go.Proofs.Ytpknnmnknaaccaa.Num Go.Proofs.Ytpknnmnknaaccaa.ListB Go.Proofs.Ytpknnmnknaaccaa.Insn Go.Proofs.Ytpknnmnknaaccaa.Up
theorem back_yes {l : List In} {i : Nat} (hi : i < l.length) (hj : jmpB (at' l i).op = true) (hw : wantP l i < 0) : backB l = true := by
  unfold backB
  rw [List.any_eq_true]
  exact ⟨i, by simpa using hi, by rw [hj]; simpa using hw⟩
theorem back_none {l : List In} (h : ∀ i, i < l.length → jmpB (at' l i).op = true → 0 ≤ wantP l i) : backB l = false := by
  unfold backB
  rw [List.any_eq_false]
  intro i hi
  cases hj : jmpB (at' l i).op
  · simp
  · have := h i (by simpa using hi) hj
    simp; omega
set_option maxRecDepth 100000 in
set_option maxHeartbeats 4000000 in
theorem back_any (a : Option Addr) (n cap : Nat) (l : List In) (w : World) (h : ArgN w a n l) (hn : n ≤ 1000) (hof : OffL l) :
    Calls Try.prog 29 #[.slice a n cap] w fun e w' => e = .returned (.bool (backB l)) ∧ Below w.heap.size w w' := by
  have HA := hid h
  have HN := hid h.1
  have HO := hid hof
  have HPG := hid (fun k (h : k < n) => plL_get l k (by rw [HN.out]; exact h))
  have HPB := hid (fun k (h : k ≤ n) => plc_le l k (by rw [HN.out]; exact h))
  have HPN := hid (show (plL l).length = n by rw [plL_length, HN.out])
  have HY := hid (fun k (hk : k < n) (hj : jmpB (at' l k).op = true) (hw : wantP l k < 0) => back_yes (l := l) (by rw [HN.out]; exact hk) hj hw)
  have HZ := hid (fun (h : ∀ i, i < n → jmpB (at' l i).op = true → 0 ≤ wantP l i) => back_none (l := l) (fun i hi => h i (by rw [← HN.out]; exact hi)))
  clear h hof
  go_enter Try.func29, Try.ntmps29
  go_wp2_with fail
  refine (places_any a n cap l w HA.out hn).mono ?_
  rintro e w1 ⟨v, rfl, hown, hb1⟩
  obtain ⟨pa, pc, hv, hpr⟩ := own_argI hown
  subst hv
  have HB1 := hid hb1
  have hs1 := hb1.size
  rw [HPN.out] at hpr ⊢
  have HPR := hid hpr
  clear hown hb1 hpr
  go_wp2_with fail
  go_loopw [4] (fun z wr => ∃ k : Nat, k ≤ n ∧ z = .int .i64 k ∧ Hid (∀ i, i < k → jmpB (at' l i).op = true → 0 ≤ wantP l i) ∧ Below w1.heap.size w1 wr) (fun z _ => n - (intOf z).toNat)
  case atStart => exact ⟨0, Nat.zero_le _, rfl, hid (fun i hi => by omega), Below.refl _ _⟩
  case round =>
    obtain ⟨k, hk, rfl, HE, hbel⟩ := hrel
    by_cases hlt : k < n
    · obtain ⟨x, hx⟩ : ∃ x, l[k]? = some x := ⟨_, List.getElem?_eq_getElem (by rw [HN.out]; exact hlt)⟩
      obtain ⟨b, off, rfl, hb, hc⟩ := HA.out.2 (by omega)
      obtain ⟨pb, po, rfl, hpb, hpc⟩ := HPR.out (by omega)
      have hbw := HB1.out.trans (hbel.mono hs1)
      have hsz := hbel.size
      have hszw := hbw.size
      have FX := hid (fun x' (hx' : Below wr.heap.size wr x') => (hc.below (hbw.trans (hx'.mono hszw)) hb) k x hx)
      have FP := hid (fun x' (hx' : Below wr.heap.size wr x') => ((hbel.trans (hx'.mono hsz)).cell (show pb < _ from hpb)).trans (hpc k hlt))
      rw [HPG.out k hlt] at FP
      have hpk := HPB.out k (by omega)
      have hoff := HO.out k x hx
      have HAT := hid (at_some hx)
      have HJ := hid (fun w => jumps_any x w)
      have HW := hid (show wantP l k = (plc l k : Int) + 1 + x.o by unfold wantP; rw [HAT.out])
      have HBB := hid hbel
      have HBW := hid hbw
      obtain ⟨p, hp⟩ : ∃ p, plc l k = p := ⟨_, rfl⟩
      rw [hp] at hpk FP HW
      obtain ⟨j, hj⟩ : ∃ j, jmpB x.op = j := ⟨_, rfl⟩
      rw [hj] at HJ
      have HJJ := hid (show jmpB (at' l k).op = j by rw [HAT.out]; exact hj)
      have hw1 : IntKind.wrap .i64 ((p : Int) + 1) = (p : Int) + 1 := w64 _ (by omega) (by omega)
      have hw2 : IntKind.wrap .i64 ((p : Int) + 1 + x.o) = (p : Int) + 1 + x.o := w64 _ (by omega) (by omega)
      have hk0 : (0 : Int) ≤ (k : Int) := by omega
      have hk1 : (k : Int) < (n : Int) := by omega
      clear hx hb hc hpb hpc hp hbel hbw hj
      obtain ⟨xo, xd, xs, xf, xm⟩ := x
      unfold insnV at HJ
      simp only at HJ FX hoff HW hw2
      cases j
      · have HE2 := hid (show ∀ i, i < k + 1 → jmpB (at' l i).op = true → 0 ≤ wantP l i from fun i hi hj => by
          by_cases e : i = k
          · subst e; rw [HJJ.out] at hj; cases hj
          · exact HE.out i (by omega) hj)
        go_upto_region 5 with fail
        refine up_begin (fun x => Below wr.heap.size wr x) 19 rfl (by kernel_rfl) ((Below.refl _ _).drew) ?_
        refine take_val (i := 0) (ups_below (Nat.le_refl _)) rfl rfl (by kernel_rfl) (fun _ _ _ h => h) (by rfl) (by intro x hx; go_simp; (first | done | exact rfl)) ?_
        simp only [List.set_cons_succ, List.set_cons_zero]
        refine take_val (i := 1) (ups_below (Nat.le_refl _)) rfl rfl (by kernel_rfl) (fun _ _ _ h => h) (by rfl) (by intro x hx; go_simp; (first | done | exact rfl)) ?_
        simp only [List.set_cons_succ, List.set_cons_zero]
        refine take_val (i := 2) (ups_below (Nat.le_refl _)) rfl rfl (by kernel_rfl) (fun _ _ _ h => h) (by rfl) (by intro x hx; go_simp; (first | done | exact rfl)) ?_
        simp only [List.set_cons_succ, List.set_cons_zero]
        refine take_val (i := 3) (ups_below (Nat.le_refl _)) rfl rfl (by kernel_rfl) (fun _ _ _ h => h) (by rfl) (by intro x hx; obtain ⟨f0, f1, f2, f3, f4⟩ := FX.out x hx; go_simp; (first | done | exact rfl)) ?_
        simp only [List.set_cons_succ, List.set_cons_zero]
        refine take_call (i := 4) (f := 17) (args := #[.agg #[.int .i64 xo, .int .i64 xd, .int .i64 xs, .int .i64 xf, .int .i64 xm]]) (ups_below (Nat.le_refl _)) rfl rfl (by kernel_rfl) (fun _ _ _ h => h) (by rfl) (fun x hx => by kernel_rfl) (by intro x hx; exact HJ.out _) ?_
        simp only [List.set_cons_succ, List.set_cons_zero]
        refine take_val (i := 5) (ups_below (Nat.le_refl _)) rfl rfl (by kernel_rfl) (fun _ _ _ h => h) (by rfl) (by intro x hx; go_simp; (first | done | exact rfl)) ?_
        simp only [List.set_cons_succ, List.set_cons_zero]
        refine take_no (i := 6) (ups_below (Nat.le_refl _)) rfl rfl (by kernel_rfl) (fun _ _ _ h => h) (by kernel_rfl) ?_
        simp only [List.set_cons_succ, List.set_cons_zero]
        refine take_no (i := 7) (ups_below (Nat.le_refl _)) rfl rfl (by kernel_rfl) (fun _ _ _ h => h) (by kernel_rfl) ?_
        simp only [List.set_cons_succ, List.set_cons_zero]
        refine take_no (i := 8) (ups_below (Nat.le_refl _)) rfl rfl (by kernel_rfl) (fun _ _ _ h => h) (by kernel_rfl) ?_
        simp only [List.set_cons_succ, List.set_cons_zero]
        refine take_no (i := 9) (ups_below (Nat.le_refl _)) rfl rfl (by kernel_rfl) (fun _ _ _ h => h) (by kernel_rfl) ?_
        simp only [List.set_cons_succ, List.set_cons_zero]
        refine take_no (i := 10) (ups_below (Nat.le_refl _)) rfl rfl (by kernel_rfl) (fun _ _ _ h => h) (by kernel_rfl) ?_
        simp only [List.set_cons_succ, List.set_cons_zero]
        refine take_no (i := 11) (ups_below (Nat.le_refl _)) rfl rfl (by kernel_rfl) (fun _ _ _ h => h) (by kernel_rfl) ?_
        simp only [List.set_cons_succ, List.set_cons_zero]
        refine take_no (i := 12) (ups_below (Nat.le_refl _)) rfl rfl (by kernel_rfl) (fun _ _ _ h => h) (by kernel_rfl) ?_
        simp only [List.set_cons_succ, List.set_cons_zero]
        refine take_no (i := 13) (ups_below (Nat.le_refl _)) rfl rfl (by kernel_rfl) (fun _ _ _ h => h) (by kernel_rfl) ?_
        simp only [List.set_cons_succ, List.set_cons_zero]
        refine take_no (i := 14) (ups_below (Nat.le_refl _)) rfl rfl (by kernel_rfl) (fun _ _ _ h => h) (by kernel_rfl) ?_
        simp only [List.set_cons_succ, List.set_cons_zero]
        refine take_no (i := 15) (ups_below (Nat.le_refl _)) rfl rfl (by kernel_rfl) (fun _ _ _ h => h) (by kernel_rfl) ?_
        simp only [List.set_cons_succ, List.set_cons_zero]
        refine take_no (i := 16) (ups_below (Nat.le_refl _)) rfl rfl (by kernel_rfl) (fun _ _ _ h => h) (by kernel_rfl) ?_
        simp only [List.set_cons_succ, List.set_cons_zero]
        refine take_no (i := 17) (ups_below (Nat.le_refl _)) rfl rfl (by kernel_rfl) (fun _ _ _ h => h) (by kernel_rfl) ?_
        simp only [List.set_cons_succ, List.set_cons_zero]
        refine take_val (i := 18) (ups_below (Nat.le_refl _)) rfl rfl (by kernel_rfl) (fun _ _ _ h => h) (by rfl) (by intro x hx; go_simp; (first | done | exact rfl)) ?_
        simp only [List.set_cons_succ, List.set_cons_zero]
        refine take_done (by kernel_rfl) ?_ _
        intro x hx
        have HBX := hid hx
        clear hx
        go_wp2_with fail
        go_roundw
        case rel => exact ⟨k + 1, by omega, by go_num, HE2, HBB.out.trans (HBX.out.mono hsz)⟩
        case measure => simp [intOf]; omega
      · by_cases hneg : (p : Int) + 1 + xf < 0
        · have HF := hid (HY.out k hlt HJJ.out (by rw [HW.out]; exact hneg))
          go_upto_region 5 with fail
          refine up_begin (fun x => Below wr.heap.size wr x) 19 rfl (by kernel_rfl) ((Below.refl _ _).drew) ?_
          refine take_val (i := 0) (ups_below (Nat.le_refl _)) rfl rfl (by kernel_rfl) (fun _ _ _ h => h) (by rfl) (by intro x hx; go_simp; (first | done | exact rfl)) ?_
          simp only [List.set_cons_succ, List.set_cons_zero]
          refine take_val (i := 1) (ups_below (Nat.le_refl _)) rfl rfl (by kernel_rfl) (fun _ _ _ h => h) (by rfl) (by intro x hx; go_simp; (first | done | exact rfl)) ?_
          simp only [List.set_cons_succ, List.set_cons_zero]
          refine take_val (i := 2) (ups_below (Nat.le_refl _)) rfl rfl (by kernel_rfl) (fun _ _ _ h => h) (by rfl) (by intro x hx; go_simp; (first | done | exact rfl)) ?_
          simp only [List.set_cons_succ, List.set_cons_zero]
          refine take_val (i := 3) (ups_below (Nat.le_refl _)) rfl rfl (by kernel_rfl) (fun _ _ _ h => h) (by rfl) (by intro x hx; obtain ⟨f0, f1, f2, f3, f4⟩ := FX.out x hx; go_simp; (first | done | exact rfl)) ?_
          simp only [List.set_cons_succ, List.set_cons_zero]
          refine take_call (i := 4) (f := 17) (args := #[.agg #[.int .i64 xo, .int .i64 xd, .int .i64 xs, .int .i64 xf, .int .i64 xm]]) (ups_below (Nat.le_refl _)) rfl rfl (by kernel_rfl) (fun _ _ _ h => h) (by rfl) (fun x hx => by kernel_rfl) (by intro x hx; exact HJ.out _) ?_
          simp only [List.set_cons_succ, List.set_cons_zero]
          refine take_val (i := 5) (ups_below (Nat.le_refl _)) rfl rfl (by kernel_rfl) (fun _ _ _ h => h) (by rfl) (by intro x hx; go_simp; (first | done | exact rfl)) ?_
          simp only [List.set_cons_succ, List.set_cons_zero]
          refine take_val (i := 6) (ups_below (Nat.le_refl _)) rfl rfl (by kernel_rfl) (fun _ _ _ h => h) (by rfl) (by intro x hx; go_simp; (first | done | exact rfl)) ?_
          simp only [List.set_cons_succ, List.set_cons_zero]
          refine take_val (i := 7) (ups_below (Nat.le_refl _)) rfl rfl (by kernel_rfl) (fun _ _ _ h => h) (by rfl) (by intro x hx; go_simp; (first | done | exact rfl)) ?_
          simp only [List.set_cons_succ, List.set_cons_zero]
          refine take_val (i := 8) (ups_below (Nat.le_refl _)) rfl rfl (by kernel_rfl) (fun _ _ _ h => h) (by rfl) (by intro x hx; go_simp; (first | done | exact rfl)) ?_
          simp only [List.set_cons_succ, List.set_cons_zero]
          refine take_val (i := 9) (ups_below (Nat.le_refl _)) rfl rfl (by kernel_rfl) (fun _ _ _ h => h) (by rfl) (by intro x hx; have f0 := FP.out x hx; go_simp; (first | done | exact rfl)) ?_
          simp only [List.set_cons_succ, List.set_cons_zero]
          refine take_val (i := 10) (ups_below (Nat.le_refl _)) rfl rfl (by kernel_rfl) (fun _ _ _ h => h) (by rfl) (by intro x hx; go_simp; (first | done | exact rfl)) ?_
          simp only [List.set_cons_succ, List.set_cons_zero]
          refine take_val (i := 11) (ups_below (Nat.le_refl _)) rfl rfl (by kernel_rfl) (fun _ _ _ h => h) (by rfl) (by intro x hx; go_simp; (first | done | exact rfl)) ?_
          simp only [List.set_cons_succ, List.set_cons_zero]
          refine take_val (i := 12) (ups_below (Nat.le_refl _)) rfl rfl (by kernel_rfl) (fun _ _ _ h => h) (by rfl) (by intro x hx; go_simp; (first | done | exact rfl)) ?_
          simp only [List.set_cons_succ, List.set_cons_zero]
          refine take_val (i := 13) (ups_below (Nat.le_refl _)) rfl rfl (by kernel_rfl) (fun _ _ _ h => h) (by rfl) (by intro x hx; go_simp; (first | done | exact rfl)) ?_
          simp only [List.set_cons_succ, List.set_cons_zero]
          refine take_val (i := 14) (ups_below (Nat.le_refl _)) rfl rfl (by kernel_rfl) (fun _ _ _ h => h) (by rfl) (by intro x hx; go_simp; (first | done | exact rfl)) ?_
          simp only [List.set_cons_succ, List.set_cons_zero]
          refine take_val (i := 15) (ups_below (Nat.le_refl _)) rfl rfl (by kernel_rfl) (fun _ _ _ h => h) (by rfl) (by intro x hx; obtain ⟨f0, f1, f2, f3, f4⟩ := FX.out x hx; go_simp; (first | done | exact rfl)) ?_
          simp only [List.set_cons_succ, List.set_cons_zero]
          refine take_val (i := 16) (ups_below (Nat.le_refl _)) rfl rfl (by kernel_rfl) (fun _ _ _ h => h) (by rfl) (by intro x hx; go_simp; (first | done | exact rfl)) ?_
          simp only [List.set_cons_succ, List.set_cons_zero]
          refine take_val (i := 17) (ups_below (Nat.le_refl _)) rfl rfl (by kernel_rfl) (fun _ _ _ h => h) (by rfl) (by intro x hx; go_simp; (first | done | exact rfl)) ?_
          simp only [List.set_cons_succ, List.set_cons_zero]
          refine take_val (i := 18) (ups_below (Nat.le_refl _)) rfl rfl (by kernel_rfl) (fun _ _ _ h => h) (by rfl) (by intro x hx; go_simp; (first | done | exact rfl)) ?_
          simp only [List.set_cons_succ, List.set_cons_zero]
          refine take_done (by kernel_rfl) ?_ _
          intro x hx
          have HBX := hid hx
          clear hx
          go_wp2_with fail
          go_ret
          exact ⟨by rw [HF.out]; rfl, HBW.out.trans (HBX.out.mono hszw)⟩
        · have HE2 := hid (show ∀ i, i < k + 1 → jmpB (at' l i).op = true → 0 ≤ wantP l i from fun i hi hj => by
            by_cases e : i = k
            · subst e; rw [HW.out]; omega
            · exact HE.out i (by omega) hj)
          go_upto_region 5 with fail
          refine up_begin (fun x => Below wr.heap.size wr x) 19 rfl (by kernel_rfl) ((Below.refl _ _).drew) ?_
          refine take_val (i := 0) (ups_below (Nat.le_refl _)) rfl rfl (by kernel_rfl) (fun _ _ _ h => h) (by rfl) (by intro x hx; go_simp; (first | done | exact rfl)) ?_
          simp only [List.set_cons_succ, List.set_cons_zero]
          refine take_val (i := 1) (ups_below (Nat.le_refl _)) rfl rfl (by kernel_rfl) (fun _ _ _ h => h) (by rfl) (by intro x hx; go_simp; (first | done | exact rfl)) ?_
          simp only [List.set_cons_succ, List.set_cons_zero]
          refine take_val (i := 2) (ups_below (Nat.le_refl _)) rfl rfl (by kernel_rfl) (fun _ _ _ h => h) (by rfl) (by intro x hx; go_simp; (first | done | exact rfl)) ?_
          simp only [List.set_cons_succ, List.set_cons_zero]
          refine take_val (i := 3) (ups_below (Nat.le_refl _)) rfl rfl (by kernel_rfl) (fun _ _ _ h => h) (by rfl) (by intro x hx; obtain ⟨f0, f1, f2, f3, f4⟩ := FX.out x hx; go_simp; (first | done | exact rfl)) ?_
          simp only [List.set_cons_succ, List.set_cons_zero]
          refine take_call (i := 4) (f := 17) (args := #[.agg #[.int .i64 xo, .int .i64 xd, .int .i64 xs, .int .i64 xf, .int .i64 xm]]) (ups_below (Nat.le_refl _)) rfl rfl (by kernel_rfl) (fun _ _ _ h => h) (by rfl) (fun x hx => by kernel_rfl) (by intro x hx; exact HJ.out _) ?_
          simp only [List.set_cons_succ, List.set_cons_zero]
          refine take_val (i := 5) (ups_below (Nat.le_refl _)) rfl rfl (by kernel_rfl) (fun _ _ _ h => h) (by rfl) (by intro x hx; go_simp; (first | done | exact rfl)) ?_
          simp only [List.set_cons_succ, List.set_cons_zero]
          refine take_val (i := 6) (ups_below (Nat.le_refl _)) rfl rfl (by kernel_rfl) (fun _ _ _ h => h) (by rfl) (by intro x hx; go_simp; (first | done | exact rfl)) ?_
          simp only [List.set_cons_succ, List.set_cons_zero]
          refine take_val (i := 7) (ups_below (Nat.le_refl _)) rfl rfl (by kernel_rfl) (fun _ _ _ h => h) (by rfl) (by intro x hx; go_simp; (first | done | exact rfl)) ?_
          simp only [List.set_cons_succ, List.set_cons_zero]
          refine take_val (i := 8) (ups_below (Nat.le_refl _)) rfl rfl (by kernel_rfl) (fun _ _ _ h => h) (by rfl) (by intro x hx; go_simp; (first | done | exact rfl)) ?_
          simp only [List.set_cons_succ, List.set_cons_zero]
          refine take_val (i := 9) (ups_below (Nat.le_refl _)) rfl rfl (by kernel_rfl) (fun _ _ _ h => h) (by rfl) (by intro x hx; have f0 := FP.out x hx; go_simp; (first | done | exact rfl)) ?_
          simp only [List.set_cons_succ, List.set_cons_zero]
          refine take_val (i := 10) (ups_below (Nat.le_refl _)) rfl rfl (by kernel_rfl) (fun _ _ _ h => h) (by rfl) (by intro x hx; go_simp; (first | done | exact rfl)) ?_
          simp only [List.set_cons_succ, List.set_cons_zero]
          refine take_val (i := 11) (ups_below (Nat.le_refl _)) rfl rfl (by kernel_rfl) (fun _ _ _ h => h) (by rfl) (by intro x hx; go_simp; (first | done | exact rfl)) ?_
          simp only [List.set_cons_succ, List.set_cons_zero]
          refine take_val (i := 12) (ups_below (Nat.le_refl _)) rfl rfl (by kernel_rfl) (fun _ _ _ h => h) (by rfl) (by intro x hx; go_simp; (first | done | exact rfl)) ?_
          simp only [List.set_cons_succ, List.set_cons_zero]
          refine take_val (i := 13) (ups_below (Nat.le_refl _)) rfl rfl (by kernel_rfl) (fun _ _ _ h => h) (by rfl) (by intro x hx; go_simp; (first | done | exact rfl)) ?_
          simp only [List.set_cons_succ, List.set_cons_zero]
          refine take_val (i := 14) (ups_below (Nat.le_refl _)) rfl rfl (by kernel_rfl) (fun _ _ _ h => h) (by rfl) (by intro x hx; go_simp; (first | done | exact rfl)) ?_
          simp only [List.set_cons_succ, List.set_cons_zero]
          refine take_val (i := 15) (ups_below (Nat.le_refl _)) rfl rfl (by kernel_rfl) (fun _ _ _ h => h) (by rfl) (by intro x hx; obtain ⟨f0, f1, f2, f3, f4⟩ := FX.out x hx; go_simp; (first | done | exact rfl)) ?_
          simp only [List.set_cons_succ, List.set_cons_zero]
          refine take_val (i := 16) (ups_below (Nat.le_refl _)) rfl rfl (by kernel_rfl) (fun _ _ _ h => h) (by rfl) (by intro x hx; go_simp; (first | done | exact rfl)) ?_
          simp only [List.set_cons_succ, List.set_cons_zero]
          refine take_val (i := 17) (ups_below (Nat.le_refl _)) rfl rfl (by kernel_rfl) (fun _ _ _ h => h) (by rfl) (by intro x hx; go_simp; (first | done | exact rfl)) ?_
          simp only [List.set_cons_succ, List.set_cons_zero]
          refine take_val (i := 18) (ups_below (Nat.le_refl _)) rfl rfl (by kernel_rfl) (fun _ _ _ h => h) (by rfl) (by intro x hx; go_simp; (first | done | exact rfl)) ?_
          simp only [List.set_cons_succ, List.set_cons_zero]
          refine take_done (by kernel_rfl) ?_ _
          intro x hx
          have HBX := hid hx
          clear hx
          go_wp2_with fail
          go_roundw
          case rel => exact ⟨k + 1, by omega, by go_num, HE2, HBB.out.trans (HBX.out.mono hsz)⟩
          case measure => simp [intOf]; omega
    · have hkn : k = n := by omega
      have HF := hid (HZ.out (fun i hi => HE.out i (by omega)))
      have HBW := hid (HB1.out.trans (hbel.mono hs1))
      have hge : n ≤ k := by omega
      clear hkn hbel
      go_wp2_with fail
      go_ret
      exact ⟨by rw [HF.out]; rfl, HBW.out⟩
end Go.Proofs.Ytpknnmnknaaccaa.Flow
