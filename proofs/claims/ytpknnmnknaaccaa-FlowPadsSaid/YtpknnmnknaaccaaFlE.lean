/-
  Contracts of lists of Bools: is one among them.
-/
import Derived.Test.YtpknnmnknaaccaaFlC
namespace Go.Proofs.Ytpknnmnknaaccaa.Flow
open Go.RowKit Go.Proofs.Ytpknnmnknaaccaa.Num Go.Proofs.Ytpknnmnknaaccaa.ListB Go.Proofs.Ytpknnmnknaaccaa.Insn
theorem infoBool : (Try.prog.info? 4).map (fun i => (i.zero, i.size, i.bytes)) = some (some (.bool false), 1, 1) := by kernel_rfl
def VB (bs : List Bool) : List Value := bs.map Value.bool
theorem VB_length (bs : List Bool) : (VB bs).length = bs.length := by unfold VB; simp
theorem VB_set (bs : List Bool) (j : Nat) (x : Bool) : (VB bs).set j (.bool x) = VB (bs.set j x) := by unfold VB; rw [List.map_set]
theorem VB_get (bs : List Bool) (j : Nat) (h : j < bs.length) : (VB bs)[j]? = some (.bool (bs.getD j false)) := by unfold VB; simp [h]
theorem makeB_own {w w1 : World} {n : Nat} (h : w1.ownsRow w.heap.size 4 1 (.slice (some ⟨w.heap.size, 0, none⟩) n n) n (madeCells (Value.bool false).cells (n * 1)).toList) : w1.ownsRow w.heap.size 4 1 (.slice (some ⟨w.heap.size, 0, none⟩) n n) n (VB (List.replicate n false)) := by
  unfold VB; rw [List.map_replicate]
  rw [show (Value.bool false).cells = #[.bool false] from rfl, toList_madeCells_one, Nat.mul_one] at h
  exact h
/-- Is there a Bool that is b among the first k? -/
theorem all_take (bs : List Bool) (h : ∀ j, j < bs.length → bs.getD j false = true) : bs.all id = true := by
  rw [List.all_eq_true]
  intro x hx
  obtain ⟨i, hi, rfl⟩ := List.mem_iff_getElem.1 hx
  have := h i hi
  rw [List.getD_eq_getElem?_getD, List.getElem?_eq_getElem hi] at this
  simpa using this
theorem not_all (bs : List Bool) (j : Nat) (hj : j < bs.length) (h : bs.getD j false = false) : bs.all id = false := by
  rw [Bool.eq_false_iff]
  intro e
  have := List.all_eq_true.1 e bs[j] (List.getElem_mem hj)
  rw [List.getD_eq_getElem?_getD, List.getElem?_eq_getElem hj] at h
  simp at this h
  rw [h] at this; cases this
/-- The index of the first Bool that is false: the walk tells only whether there is one. -/
def IdxPost (bs : List Bool) (w : World) (e : Ending) (w' : World) : Prop := (∃ z : Int, e = .returned (.int .i64 z) ∧ decide (0 ≤ z) = !(bs.all id)) ∧ w = w'
set_option maxHeartbeats 1000000 in
theorem idxB_any (b off c n : Nat) (bs : List Bool) (w : World) (hn : n ≤ 1000) (hz : bs.length = n) (hc : ∀ i, i < n → w.cell? ⟨b, off + i, none⟩ = some (.bool (bs.getD i false))) :
    Calls Try.prog 51 #[.slice (some ⟨b, off, none⟩) n c, .bool false] w (IdxPost bs w) := by
  have HC := hid hc
  have HZ := hid hz
  have HN := hid (fun j (hj : j < n) h => not_all bs j (by rw [HZ.out]; exact hj) h)
  have HA := hid (all_take bs)
  clear hc hz
  unfold IdxPost
  go_enter Try.func51, Try.ntmps51
  go_wp2
  go_loopw [8] (fun i wr => ∃ k : Nat, k ≤ n ∧ i = .int .i64 k ∧ Hid (∀ j, j < k → bs.getD j false = true) ∧ wr = w) (fun i _ => n - (intOf i).toNat)
  case atStart => exact ⟨0, Nat.zero_le _, rfl, hid (fun j hj => by omega), rfl⟩
  case round =>
    obtain ⟨k, hk, rfl, HE, rfl⟩ := hrel
    by_cases hlt : k < n
    · have hck := HC.out k hlt
      cases hb : bs.getD k false
      · rw [hb] at hck
        have HF := hid (HN.out k hlt hb)
        clear hb
        go_wp2
        go_ret
        exact ⟨⟨k, rfl, by rw [HF.out]; simp⟩, rfl⟩
      · rw [hb] at hck
        have HE2 : Hid (∀ j, j < k + 1 → bs.getD j false = true) := hid fun j hj => by
          by_cases e : j = k
          · subst e; exact hb
          · exact HE.out j (by omega)
        clear hb
        go_wp2
        go_roundw
        case rel => exact ⟨k + 1, by omega, by go_num, HE2, trivial⟩
        case measure => simp [intOf]; omega
    · have hkn : k = n := by omega
      have HF := hid (HA.out (fun j hj => HE.out j (by rw [hkn, ← HZ.out]; exact hj)))
      have hge : n ≤ k := by omega
      clear hkn
      go_wp2
      go_ret
      exact ⟨⟨-1, rfl, by rw [HF.out]; rfl⟩, rfl⟩
/-- slices.Contains(_, false): is one of them false? -/
theorem contB_any (b off c n : Nat) (bs : List Bool) (w : World) (hn : n ≤ 1000) (hz : bs.length = n) (hc : ∀ i, i < n → w.cell? ⟨b, off + i, none⟩ = some (.bool (bs.getD i false))) :
    Calls Try.prog 35 #[.slice (some ⟨b, off, none⟩) n c, .bool false] w fun e w' => e = .returned (.bool (!(bs.all id))) ∧ w = w' := by
  have HI := hid (idxB_any b off c n bs w hn hz hc)
  clear hc hz
  go_enter Try.func35, Try.ntmps35
  go_wp2_with fail
  refine HI.out.mono ?_
  rintro e w2 ⟨⟨z, rfl, hz⟩, rfl⟩
  have HZ := hid hz
  clear hz
  go_wp2_with fail
  go_ret
  exact ⟨by rw [← HZ.out]; rfl, rfl⟩
end Go.Proofs.Ytpknnmnknaaccaa.Flow
