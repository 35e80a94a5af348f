/-
  The kit's Pick: a number below the one given; comparisons with a part of a row.
-/
import Derived.Test.YtccjfnkneiggcaaAgain
import Derived.Test.YtccjfnkneiggcaaLawBack
namespace Go.Proofs.Ytccjfnkneiggcaa.Insn
open Go.RowKit Go.Proofs.Ytccjfnkneiggcaa.Num Go.Proofs.Ytccjfnkneiggcaa.ListB
theorem pick_any (c : Int) (n : Nat) (w : World) (hc : (Lit.int .i64 c).wf = true) (h2 : n ≤ 100000) :
    Calls Try.prog 32 #[.int .i64 c, .int .i64 ((n : Int) + 1)] w fun e w' => (∃ k : Nat, k ≤ n ∧ e = .returned (.int .i64 (k : Nat))) ∧ w = w' := by
  have hb := bounds_i64 hc
  have hn1 : decide ((n : Int) + 1 < 1) = false := by simp; omega
  have hn0 : ((n : Int) + 1 == 0) = false := by simp; omega
  have ht0 : -((n : Int) + 1) < c.tmod ((n : Int) + 1) := by have := Int.lt_tmod_of_pos c (show (0 : Int) < (n : Int) + 1 by omega); omega
  have ht1 : c.tmod ((n : Int) + 1) < (n : Int) + 1 := Int.tmod_lt_of_pos c (by omega)
  have hw : wrap64 (c.tmod ((n : Int) + 1) + ((n : Int) + 1)) = c.tmod ((n : Int) + 1) + ((n : Int) + 1) := by unfold wrap64; first | omega | (split <;> omega)
  go_enter Try.func32, Try.ntmps32
  go_wp2_with fail
  · go_ret
    refine ⟨⟨(c.tmod ((n : Int) + 1) + ((n : Int) + 1)).toNat, by omega, ?_⟩, rfl⟩
    rw [Int.toNat_of_nonneg (by omega)]
    rfl
  · go_ret
    refine ⟨⟨(c.tmod ((n : Int) + 1)).toNat, by omega, ?_⟩, rfl⟩
    rw [Int.toNat_of_nonneg (by omega)]
    rfl
theorem sameB_arg (b1 n : Nat) (v1 : Value) (a : Option Addr) (c : Nat) (zs : List Int) (w : World) (hn : n ≤ 9223372036854775807) (h1 : w.ownsRow b1 5 1 v1 n (V zs)) (h2 : Arg w a n zs) :
    Calls Try.prog 21 #[v1, .slice a n c] w (SamePost true w) := by
  by_cases h0 : 0 < n
  · obtain ⟨g1, c1, rfl⟩ := own_shapeG h1 h0
    obtain ⟨b, off, rfl, hb, hrow⟩ := h2.2.2 h0
    have S := same_row g1 b 0 off n c1 c zs zs w hn h2.1 h2.1 (fun i hi => own_cellB h1 i hi) hrow
    rw [show decide (zs = zs) = true by simp] at S
    exact S
  · obtain rfl : n = 0 := by omega
    rcases h1.2 with ⟨rfl, _⟩ | ⟨g1, c1, _, rfl, _⟩
    all_goals exact same_empty _ _ _ _ _
theorem sameN_pre (b1 n : Nat) (v1 : Value) (b off c : Nat) (l : List In) (w : World) (hn : n ≤ 9223372036854775807) (h1 : w.ownsRow b1 23 5 v1 n (VN l)) (h2 : NRow w b off l) :
    Calls Try.prog 27 #[v1, .slice (some ⟨b, off, none⟩) n c] w (SamePost true w) := by
  have hz : l.length = n := by have := h1.1; rw [VN_length] at this; omega
  by_cases h0 : 0 < n
  · obtain ⟨g1, c1, rfl⟩ := own_shapeG h1 h0
    have S := sameN_row g1 b 0 off n c1 c l l w hn hz hz (nrow_own h1) h2
    rw [show decide (l = l) = true by simp] at S
    exact S
  · obtain rfl : n = 0 := by omega
    rcases h1.2 with ⟨rfl, _⟩ | ⟨g1, c1, _, rfl, _⟩
    all_goals exact sameN_empty _ _ _ _ _
theorem take_getD (zs : List Int) (k i : Nat) (hi : i < k) : (zs.take k).getD i 0 = zs.getD i 0 := by
  rw [List.getD_eq_getElem?_getD, List.getElem?_take, if_pos hi, ← List.getD_eq_getElem?_getD]
theorem arg_take {w : World} {b off n : Nat} {zs : List Int} (h : Arg w (some ⟨b, off, none⟩) n zs) (hb : b < w.heap.size) (k : Nat) (hk : k ≤ n) : Arg w (some ⟨b, off, none⟩) k (zs.take k) := by
  refine ⟨by rw [List.length_take, h.1]; omega, fun i => ?_, fun h0 => ⟨b, off, rfl, hb, fun i hi => ?_⟩⟩
  · by_cases hi : i < k
    · rw [take_getD _ _ _ hi]; exact h.2.1 i
    · rw [List.getD_eq_getElem?_getD, List.getElem?_take, if_neg hi]; simp
  · obtain ⟨b', off', e, _, hc⟩ := h.2.2 (by omega)
    cases e
    rw [take_getD _ _ _ hi]; exact hc i (by omega)
end Go.Proofs.Ytccjfnkneiggcaa.Insn
