/-
  Contracts of the program's table of instructions: opcodes, enter.
-/
import Derived.Test.YtpknnmnknaaccaaRows
import Derived.Test.YtpknnmnknaaccaaNumC
import Derived.WalkKit
import Derived.WalkSpells
import Derived.WalkLawsBesides
import Derived.Maps.OwnSet
import Derived.Maps.Views
import Derived.OwnWalk
namespace Go.Proofs.Ytpknnmnknaaccaa.Insn
open Go.RowKit Go.Proofs.Ytpknnmnknaaccaa.Num Go.Maps
theorem infoInt : (Try.prog.info? 3).map (fun i => (i.zero, i.size, i.bytes)) = some (some (.int .i64 0), 1, 8) := by kernel_rfl
/-- Numbers as the memory holds them. -/
def VI (zs : List Int) : List Value := zs.map (Value.int .i64)
def orL (lower : Int) (us : List Int) : List Int := us.map fun u => bits .or .i64 u lower
/-- Numbers that are there to be read. -/
def Nums (w : World) (b off : Nat) (us : List Int) : Prop := ∀ i, i < us.length → w.cell? ⟨b, off + i, none⟩ = some (.int .i64 (us.getD i 0))
def mkL (lower : Int) (us : List Int) (k : Nat) : List Int := (orL lower us).take k ++ List.replicate (us.length - k) 0
theorem mkL_zero (lower : Int) (us : List Int) : mkL lower us 0 = List.replicate us.length 0 := by simp [mkL]
theorem mkL_set (lower : Int) (us : List Int) (k : Nat) (h : k < us.length) : (mkL lower us k).set k (bits .or .i64 (us.getD k 0) lower) = mkL lower us (k + 1) := by
  unfold mkL
  have hl : (orL lower us).length = us.length := by simp [orL]
  rw [List.set_append_right _ _ (by simp [hl]; omega)]
  rw [List.take_succ_eq_append_getElem (by omega)]
  rw [show us.length - k = (us.length - (k + 1)) + 1 by omega, List.replicate_succ]
  simp [Nat.min_eq_left (Nat.le_of_lt h), orL, h]
theorem mkL_done (lower : Int) (us : List Int) : mkL lower us us.length = orL lower us := by
  unfold mkL; rw [List.take_of_length_le (by simp [orL])]; simp
theorem VI_set (zs : List Int) (j : Nat) (x : Int) : (VI zs).set j (.int .i64 x) = VI (zs.set j x) := by unfold VI; rw [List.map_set]
theorem VI_get (zs : List Int) (j : Nat) (h : j < zs.length) : (VI zs)[j]? = some (.int .i64 (zs.getD j 0)) := by unfold VI; simp [h]
def OpcPost (w : World) (lower : Int) (us : List Int) (e : Ending) (w' : World) : Prop :=
  ∃ g, e = .returned (.slice (some ⟨g, 0, none⟩) us.length us.length) ∧ w.heap.size ≤ g ∧ g < w'.heap.size ∧ Nums w' g 0 (orL lower us) ∧ Below w.heap.size w w'
set_option maxHeartbeats 1000000 in
theorem opcodes_any (lower : Int) (b off : Nat) (us : List Int) (w : World) (hl : us.length ≤ 100) (h0 : 0 < us.length) (hb : b < w.heap.size) (hc : Nums w b off us) :
    Calls Try.prog 55 #[.int .i64 lower, .slice (some ⟨b, off, none⟩) us.length us.length] w (OpcPost w lower us) := by
  obtain ⟨i0, hi, hz0, hz1, hz2⟩ := info_parts infoInt
  have HC := hid hc; clear hc
  have HD := hid (mkL_done lower us)
  have HZ := hid (mkL_zero lower us)
  have HS := hid (fun k => mkL_set lower us k)
  have HL := hid (fun k => show k ≤ us.length → (mkL lower us k).length = us.length from fun hk => by simp [mkL, orL]; omega)
  obtain ⟨n, hn⟩ : ∃ n, us.length = n := ⟨_, rfl⟩
  unfold OpcPost
  rw [hn] at h0 hl ⊢
  have HN := hid hn; clear hn
  go_enter Try.func55, Try.ntmps55
  go_wp2_with (at_make; refine wpList_make_full _ rfl _ _ 26 rfl w.heap.size 3 i0 (.int .i64 0) 1 Try.underlying26 hi hz0 hz1 .i64 .i64 _ _ n rfl rfl rfl rfl (by rw [hz2]; omega) (by unfold maxLen; omega) (Nat.le_refl _) ?_; intro w1 hown1 hgrow1)
  have hst : w1.ownsRow w.heap.size 3 1 (.slice (some ⟨w.heap.size, 0, none⟩) n n) n (VI (mkL lower us 0)) := by
    rw [HZ.out, HN.out]; unfold VI; rw [List.map_replicate]
    have e := hown1
    rw [show (Value.int IntKind.i64 0).cells = #[.int .i64 0] from rfl, toList_madeCells_one, Nat.mul_one] at e
    exact e
  have hb1 : Below w.heap.size w w1 := ⟨hgrow1.os, hgrow1.tape, hgrow1.output, hgrow1.size, fun k hk => hgrow1.block k hk (by simp)⟩
  have HST := hid hst
  clear hst hown1 hgrow1
  go_wp2
  go_loopw [13] (fun i wr => ∃ k : Nat, k ≤ n ∧ i = .int .i64 k ∧ wr.ownsRow w.heap.size 3 1 (.slice (some ⟨w.heap.size, 0, none⟩) n n) n (VI (mkL lower us k)) ∧ Below w.heap.size w wr) (fun i _ => n - (intOf i).toNat)
  case atStart => exact ⟨0, Nat.zero_le _, rfl, HST.out, hb1⟩
  case round =>
    obtain ⟨k, hk, rfl, hown, hbel⟩ := hrel
    by_cases hlt : k < n
    · have hcell := (hown.cellAt k (by omega)).trans (VI_get _ _ (by rw [HL.out k (by rw [HN.out]; omega), HN.out]; omega))
      have hfr := hown.frozenAt k
      have hck := (hbel.cell (show b < _ from hb)).trans (HC.out k (by rw [HN.out]; omega))
      have hst := hown.stored k (.int .i64 (bits .or .i64 (us.getD k 0) lower))
      rw [VI_set, HS.out k (by rw [HN.out]; omega)] at hst
      have HST := hid hst
      have hB := hid (hbel.setCell (p := ⟨w.heap.size, k, none⟩) (Nat.le_refl _) (.int .i64 (bits .or .i64 (us.getD k 0) lower)))
      generalize (mkL lower us k).getD k 0 = y at hcell
      generalize us.getD k 0 = x at hck HST hB
      clear hst hown hbel
      go_wp2
      go_roundw
      case rel => exact ⟨k + 1, by omega, by go_num, HST.out.1, hB.out⟩
      case measure => simp [intOf]; omega
    · have hkn : k = n := by omega
      have hown2 := hown
      rw [hkn, ← HN.out, HD.out] at hown2
      have HO := hid hown2
      have hs := hbel.size
      clear hown hown2 hkn
      go_wp2
      go_ret
      refine ⟨w.heap.size, rfl, Nat.le_refl _, (HO.out.lt _ rfl).2, fun i hi => ?_, hbel⟩
      rw [Nat.zero_add, HO.out.cellAt i (by simpa [orL] using hi)]
      exact VI_get _ _ hi
end Go.Proofs.Ytpknnmnknaaccaa.Insn
