/-
  Contracts of the kit's lists: bytes that are written over; bytes that are the same; Pick.
-/
import Derived.Test.YtccjfnkneiggcaaLawK
import Derived.Test.YtccjfnkneiggcaaInsD
namespace Go.Proofs.Ytccjfnkneiggcaa.Insn
open Go.RowKit Go.Proofs.Ytccjfnkneiggcaa.Num Go.Proofs.Ytccjfnkneiggcaa.ListB
theorem markB_any (i : Int) (w : World) (i0 : 0 ≤ i) (i1 : i ≤ 1000000) :
    Calls Try.prog 45 #[.int .i64 i] w fun e w' => e = .returned (.int .u8 ((201 + 7 * i) % 256)) ∧ w = w' := by
  go_enter Try.func45, Try.ntmps45
  go_wp2
  go_ret
  exact ⟨rfl, rfl⟩
def Grown (w : World) (v : Value) (e : Ending) (w' : World) : Prop := e = .returned (.tuple #[]) ∧ w.grownBy w' v.ownBlock
theorem spoilB_nil (a : Option Addr) (cap : Nat) (w : World) :
    Calls Try.prog 23 #[.slice a 0 cap] w fun e w' => e = .returned (.tuple #[]) ∧ w = w' := by
  go_enter Try.func23, Try.ntmps23
  go_wp2
  refine wp_loop_rounds 1 ?_
  rw [rounds_succ]
  go_wp2
  go_end0
  exact ⟨rfl, rfl⟩
set_option maxHeartbeats 1000000 in
theorem spoilB_row (base g n c : Nat) (xs : List Value) (w : World) (hn : n ≤ 100000) (h : w.ownsRow base 5 1 (.slice (some ⟨g, 0, none⟩) n c) n xs) :
    Calls Try.prog 23 #[.slice (some ⟨g, 0, none⟩) n c] w fun e w' => e = .returned (.tuple #[]) ∧ w.grownBy w' (some g) := by
  have HO := hid h
  clear h
  go_enter Try.func23, Try.ntmps23
  go_wp2
  go_loopw [2] (fun i wr => ∃ k : Nat, k ≤ n ∧ i = .int .i64 k ∧ (∃ ys, wr.ownsRow base 5 1 (.slice (some ⟨g, 0, none⟩) n c) n ys) ∧ w.grownBy wr (some g)) (fun i _ => n - (intOf i).toNat)
  case atStart => exact ⟨0, Nat.zero_le _, rfl, ⟨xs, HO.out⟩, World.grownBy.refl _ _⟩
  case round =>
    obtain ⟨k, hk, rfl, ⟨ys, hown⟩, hgr⟩ := hrel
    by_cases hlt : k < n
    · have HG := hid hgr
      have HOW := hid hown
      clear hgr hown
      obtain ⟨u0, c0⟩ := own_some HOW.out k (by omega)
      have f0 := HOW.out.frozenAt k
      go_wp2_with fail
      refine (markB_any _ _ (by omega) (by omega)).mono ?_
      rintro e w2 ⟨rfl, rfl⟩
      generalize (201 + 7 * ((k : Int) + 7)) % 256 = z
      have s0 := HOW.out.stored k (.int .u8 z)
      have HF := hid (And.intro s0.1 (grownBy_trans' HG.out s0.2))
      clear s0
      go_wp2
      go_roundw
      case rel => exact ⟨k + 1, by omega, by go_num, ⟨_, HF.out.1⟩, HF.out.2⟩
      case measure => simp [intOf]; omega
    · have HG := hid hgr
      clear hgr hown
      go_wp2
      go_end0
      exact ⟨rfl, HG.out⟩
theorem spoilB_any (base n : Nat) (v : Value) (xs : List Value) (w : World) (hn : n ≤ 100000) (h : w.ownsRow base 5 1 v n xs) :
    Calls Try.prog 23 #[v] w fun e w' => e = .returned (.tuple #[]) ∧ w.grownBy w' v.ownBlock := by
  by_cases h0 : 0 < n
  · obtain ⟨g, c, rfl⟩ := own_shapeG h h0
    exact spoilB_row base g n c xs w hn h
  · obtain rfl : n = 0 := by omega
    rcases h.2 with ⟨rfl, _⟩ | ⟨g, c, cu, rfl, _⟩
    · refine (spoilB_nil none 0 w).mono ?_
      rintro e w' ⟨rfl, rfl⟩
      exact ⟨rfl, World.grownBy.refl _ _⟩
    · refine (spoilB_nil (some ⟨g, 0, none⟩) c w).mono ?_
      rintro e w' ⟨rfl, rfl⟩
      exact ⟨rfl, World.grownBy.refl _ _⟩
theorem spoilN_any (base n : Nat) (v : Value) (xs : List Value) (w : World) (hn : n ≤ 100000) (h : w.ownsRow base 23 5 v n xs) :
    Calls Try.prog 29 #[v] w fun e w' => e = .returned (.tuple #[]) ∧ w.grownBy w' v.ownBlock := by
  by_cases h0 : 0 < n
  · obtain ⟨g, c, rfl⟩ := own_shapeG h h0
    exact spoilN_row base g n c xs w (by omega) h
  · obtain rfl : n = 0 := by omega
    rcases h.2 with ⟨rfl, _⟩ | ⟨g, c, cu, rfl, _⟩
    · refine (spoilN_nil none 0 w).mono ?_
      rintro e w' ⟨rfl, rfl⟩
      exact ⟨rfl, World.grownBy.refl _ _⟩
    · refine (spoilN_nil (some ⟨g, 0, none⟩) c w).mono ?_
      rintro e w' ⟨rfl, rfl⟩
      exact ⟨rfl, World.grownBy.refl _ _⟩
/-- Two rows of bytes that hold the same. -/
theorem sameB_own (b1 b2 n : Nat) (v1 v2 : Value) (zs : List Int) (w : World) (hn : n ≤ 9223372036854775807) (h1 : w.ownsRow b1 5 1 v1 n (V zs)) (h2 : w.ownsRow b2 5 1 v2 n (V zs)) :
    Calls Try.prog 21 #[v1, v2] w (SamePost true w) := by
  have hz : zs.length = n := by have := h1.1; unfold V at this; simpa using this
  by_cases h0 : 0 < n
  · obtain ⟨g1, c1, rfl⟩ := own_shapeG h1 h0
    obtain ⟨g2, c2, rfl⟩ := own_shapeG h2 h0
    have S := same_row g1 g2 0 0 n c1 c2 zs zs w hn hz hz (fun i hi => own_cellB h1 i hi) (fun i hi => own_cellB h2 i hi)
    rw [show decide (zs = zs) = true by simp] at S
    exact S
  · obtain rfl : n = 0 := by omega
    rcases h1.2 with ⟨rfl, _⟩ | ⟨g1, c1, _, rfl, _⟩ <;> rcases h2.2 with ⟨rfl, _⟩ | ⟨g2, c2, _, rfl, _⟩
    all_goals exact same_empty _ _ _ _ _
theorem sameN_own (b1 b2 n : Nat) (v1 v2 : Value) (l : List In) (w : World) (hn : n ≤ 9223372036854775807) (h1 : w.ownsRow b1 23 5 v1 n (VN l)) (h2 : w.ownsRow b2 23 5 v2 n (VN l)) :
    Calls Try.prog 27 #[v1, v2] w (SamePost true w) := by
  have hz : l.length = n := by have := h1.1; rw [VN_length] at this; omega
  by_cases h0 : 0 < n
  · obtain ⟨g1, c1, rfl⟩ := own_shapeG h1 h0
    obtain ⟨g2, c2, rfl⟩ := own_shapeG h2 h0
    have S := sameN_row g1 g2 0 0 n c1 c2 l l w hn hz hz (nrow_own h1) (nrow_own h2)
    rw [show decide (l = l) = true by simp] at S
    exact S
  · obtain rfl : n = 0 := by omega
    rcases h1.2 with ⟨rfl, _⟩ | ⟨g1, c1, _, rfl, _⟩ <;> rcases h2.2 with ⟨rfl, _⟩ | ⟨g2, c2, _, rfl, _⟩
    all_goals exact sameN_empty _ _ _ _ _
end Go.Proofs.Ytccjfnkneiggcaa.Insn
