/-
  Contracts of the program's checks of a row's fields.
-/
import Derived.Test.YtpknnmnknaaccaaDevSmall
namespace Go.Proofs.Ytpknnmnknaaccaa.Insn
open Go.RowKit Go.Proofs.Ytpknnmnknaaccaa.Num
def FV.val (f : FV) : Value := .agg #[.int .u8 f.dst, .int .u8 f.src, .bool f.off, .int .u8 f.imm]
def regD (f : FV) (d s m : Int) : Bool := fitsR f.dst d m && fitsR f.src s m
def zeroD (f : FV) (d s o m : Int) : Bool :=
  !((f.dst == 0 && d != 0) || (f.src == 0 && s != 0) || (f.src == 4 && decide (1 < s)) || (!f.off && o != 0) || (f.imm == 0 && m != 0))
def immD (k op s m : Int) : Bool :=
  if k = 2 then decide (0 ≤ m) && decide (m < bitsO (op % 8)) else if k = 3 then m == 16 || m == 32 || m == 64 else if k = 4 then atomIs m
  else if k = 5 then s != 1 || (decide (0 ≤ m) && decide (m ≤ 2147483647)) else sfits m 2147483648
def numD (f : FV) (op s o m : Int) : Bool := sfits o 32768 && immD f.imm op s m
theorem dclass_same (op : Int) (w : World) : Calls Try.prog 42 #[.int .i64 op] w fun e w' => e = .returned (.int .i64 (op % 8)) ∧ w' = w := (dclass_any op w).mono fun _ _ ⟨a, b⟩ => ⟨a, b.symm⟩
theorem bitsOf_same (c : Int) (w : World) : Calls Try.prog 64 #[.int .i64 c] w fun e w' => e = .returned (.int .i64 (bitsO c)) ∧ w' = w := (bitsOf_any c w).mono fun _ _ ⟨a, b⟩ => ⟨a, b.symm⟩
theorem below_drewN' {B : Nat} {a w : World} (h : Below B a w) (n : Nat) : Below B a (w.drewN n) := ⟨h.os, h.tape, h.output, h.size, h.block⟩
theorem two_below (w : World) (x y : Obj) : Below w.heap.size w ((w.alloc x).alloc y) := ((Below.refl _ _).alloc (Nat.le_refl _) _).alloc (by simp) _
set_option maxHeartbeats 1000000 in
theorem registersFit_any (f : FV) (op d s o m : Int) (w : World) :
    Calls Try.prog 46 #[f.val, insnV op d s o m] w fun e w' => e = .returned (.bool (regD f d s m)) ∧ Below w.heap.size w w' := by
  obtain ⟨fd, fs, fo, fm⟩ := f
  unfold FV.val insnV
  cases hA : fitsR fd d m
  · rw [show regD ⟨fd, fs, fo, fm⟩ d s m = false by unfold regD; rw [hA]; rfl]
    have HA := hid hA
    clear hA
    go_enter Try.func46, Try.ntmps46
    go_wp2_with fail
    refine (fits_any _ _ _ _).mono ?_
    rintro e w' ⟨rfl, rfl⟩
    simp only [HA.out]
    go_wp2_with fail
    go_ret
    exact ⟨rfl, two_below _ _ _⟩
  · rw [show regD ⟨fd, fs, fo, fm⟩ d s m = fitsR fs s m by unfold regD; rw [hA]; rfl]
    have HA := hid hA
    clear hA
    go_enter Try.func46, Try.ntmps46
    go_wp2_with fail
    refine (fits_any _ _ _ _).mono ?_
    rintro e w' ⟨rfl, rfl⟩
    simp only [HA.out]
    go_wp2_with fail
    refine (fits_any _ _ _ _).mono ?_
    rintro e w' ⟨rfl, rfl⟩
    go_wp2_with fail
    go_ret
    exact ⟨rfl, two_below _ _ _⟩
set_option maxHeartbeats 4000000 in
theorem immFits_any (f : FV) (op d s o m : Int) (w : World) (h0 : 0 ≤ f.imm) (h5 : f.imm ≤ 5) :
    Calls Try.prog 60 #[f.val, insnV op d s o m] w fun e w' => e = .returned (.bool (immD f.imm op s m)) ∧ Below w.heap.size w w' := by
  obtain ⟨fd, fs, fo, fm⟩ := f
  simp only at h0 h5
  unfold FV.val insnV
  simp only
  have hk : fm = 0 ∨ fm = 1 ∨ fm = 2 ∨ fm = 3 ∨ fm = 4 ∨ fm = 5 := by omega
  clear h0 h5
  rcases hk with rfl | rfl | rfl | rfl | rfl | rfl
  · rw [show immD 0 op s m = sfits m 2147483648 from rfl]
    go_enter Try.func60, Try.ntmps60
    go_wp2_with fail
    refine (signedFits_32 _ _).mono ?_
    rintro e w' ⟨rfl, rfl⟩
    go_wp2_with fail
    go_ret
    exact ⟨rfl, two_below _ _ _⟩
  · rw [show immD 1 op s m = sfits m 2147483648 from rfl]
    go_enter Try.func60, Try.ntmps60
    go_wp2_with fail
    refine (signedFits_32 _ _).mono ?_
    rintro e w' ⟨rfl, rfl⟩
    go_wp2_with fail
    go_ret
    exact ⟨rfl, two_below _ _ _⟩
  · cases hm : decide (0 ≤ m)
    · rw [show immD 2 op s m = false by unfold immD; rw [if_pos rfl, hm]; rfl]
      go_enter Try.func60, Try.ntmps60
      go_wp2_with fail
      go_quiet (fail)
      go_wp2_with fail
      go_ret
      exact ⟨rfl, below_drewN' (two_below _ _ _) _⟩
    · rw [show immD 2 op s m = decide (m < bitsO (op % 8)) by unfold immD; rw [if_pos rfl, hm]; rfl]
      go_enter Try.func60, Try.ntmps60
      go_wp2_with fail
      go_quiet ((first | (go_at_call 42; exact Calls.quiet_of_same (dclass_same _ _)) | (go_at_call 64; exact Calls.quiet_of_same (bitsOf_same _ _))))
      go_wp2_with fail
      go_ret
      exact ⟨rfl, below_drewN' (two_below _ _ _) _⟩
  · rw [show immD 3 op s m = (m == 16 || m == 32 || m == 64) from rfl]
    cases a1 : (m == 16)
    · cases a2 : (m == 32)
      · cases a3 : (m == 64)
        all_goals
          go_enter Try.func60, Try.ntmps60
          go_wp2_with fail
          go_ret
          exact ⟨rfl, two_below _ _ _⟩
      · go_enter Try.func60, Try.ntmps60
        go_wp2_with fail
        go_ret
        exact ⟨rfl, two_below _ _ _⟩
    · go_enter Try.func60, Try.ntmps60
      go_wp2_with fail
      go_ret
      exact ⟨rfl, two_below _ _ _⟩
  · rw [show immD 4 op s m = atomIs m from rfl]
    go_enter Try.func60, Try.ntmps60
    go_wp2_with fail
    refine (datomic_any _ _).mono ?_
    rintro e w' ⟨rfl, rfl⟩
    go_wp2_with fail
    go_ret
    exact ⟨rfl, two_below _ _ _⟩
  · rw [show immD 5 op s m = (s != 1 || (decide (0 ≤ m) && decide (m ≤ 2147483647))) from rfl]
    cases a1 : (s != 1)
    · cases a2 : decide (0 ≤ m)
      · go_enter Try.func60, Try.ntmps60
        go_wp2_with fail
        go_ret
        exact ⟨rfl, two_below _ _ _⟩
      · cases a3 : decide (m ≤ 2147483647)
        all_goals
          go_enter Try.func60, Try.ntmps60
          go_wp2_with fail
          go_ret
          exact ⟨rfl, two_below _ _ _⟩
    · go_enter Try.func60, Try.ntmps60
      go_wp2_with fail
      go_ret
      exact ⟨rfl, two_below _ _ _⟩
set_option maxHeartbeats 1000000 in
theorem numbersFit_any (f : FV) (op d s o m : Int) (w : World) (h0 : 0 ≤ f.imm) (h5 : f.imm ≤ 5) :
    Calls Try.prog 48 #[f.val, insnV op d s o m] w fun e w' => e = .returned (.bool (numD f op s o m)) ∧ Below w.heap.size w w' := by
  have HI := hid (fun w => immFits_any f op d s o m w h0 h5)
  clear h0 h5
  obtain ⟨fd, fs, fo, fm⟩ := f
  unfold FV.val insnV at *
  simp only at HI
  cases hA : sfits o 32768
  · rw [show numD ⟨fd, fs, fo, fm⟩ op s o m = false by unfold numD; rw [hA]; rfl]
    have HA := hid hA
    clear hA
    go_enter Try.func48, Try.ntmps48
    go_wp2_with fail
    refine (signedFits_16 _ _).mono ?_
    rintro e w' ⟨rfl, rfl⟩
    simp only [HA.out]
    go_wp2_with fail
    go_ret
    exact ⟨rfl, two_below _ _ _⟩
  · rw [show numD ⟨fd, fs, fo, fm⟩ op s o m = immD fm op s m by unfold numD; rw [hA]; rfl]
    have HA := hid hA
    clear hA
    go_enter Try.func48, Try.ntmps48
    go_wp2_with fail
    refine (signedFits_16 _ _).mono ?_
    rintro e w' ⟨rfl, rfl⟩
    simp only [HA.out]
    go_wp2_with fail
    refine (HI.out _).mono ?_
    rintro e w' ⟨rfl, hb⟩
    go_wp2_with fail
    go_ret
    exact ⟨rfl, (two_below _ _ _).trans (hb.mono (by simp; omega))⟩
end Go.Proofs.Ytpknnmnknaaccaa.Insn
