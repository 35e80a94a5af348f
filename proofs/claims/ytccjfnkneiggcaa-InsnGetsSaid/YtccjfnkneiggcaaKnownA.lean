/-
  Contract of the law's helper many: how many opcodes of a class may be with some fields.
-/
import Derived.Test.YtccjfnkneiggcaaLawAgain
namespace Go.Proofs.Ytccjfnkneiggcaa.Insn
open Go.RowKit Go.Proofs.Ytccjfnkneiggcaa.Num Go.Proofs.Ytccjfnkneiggcaa.ListB
def manyB (c d s o m : Int) (k : Nat) : Bool := ((k : Int) % 8 == c) && (chkD k d s o m == 0)
def manyN (c d s o m : Int) : Nat → Nat
  | 0 => 0
  | n + 1 => manyN c d s o m n + (if manyB c d s o m n then 1 else 0)
theorem manyN_le (c d s o m : Int) (n : Nat) : manyN c d s o m n ≤ n := by
  induction n with
  | zero => exact Nat.le_refl _
  | succ n ih => unfold manyN; split <;> omega
theorem manyN_yes {c d s o m : Int} {n : Nat} (h : manyB c d s o m n = true) : manyN c d s o m (n + 1) = manyN c d s o m n + 1 := by
  conv => lhs; unfold manyN
  rw [if_pos h]
theorem manyN_no {c d s o m : Int} {n : Nat} (h : manyB c d s o m n = false) : manyN c d s o m (n + 1) = manyN c d s o m n := by
  conv => lhs; unfold manyN
  rw [if_neg (by rw [h]; simp)]; rfl
set_option maxHeartbeats 1000000 in
theorem many_any (c op d s o m : Int) (w : World) :
    Calls Try.prog 34 #[.int .i64 c, .agg #[.int .i64 op, .int .i64 d, .int .i64 s, .int .i64 o, .int .i64 m]] w fun e w' => e = .returned (.int .i64 (manyN c d s o m 256 : Nat)) ∧ Below w.heap.size w w' := by
  have HX0 := hid (XB.new w ⟨op, d, s, o, m⟩)
  have HB0 := hid (below_new w (.cells #[.int .i64 op, .int .i64 d, .int .i64 s, .int .i64 o, .int .i64 m] 23))
  obtain ⟨N, hN⟩ : ∃ N : Nat, 256 = N := ⟨_, rfl⟩
  go_enter Try.func34, Try.ntmps34
  go_wp2_with fail
  go_loopw [5, 6] (fun n i wr => ∃ (k : Nat) (op' : Int), k ≤ N ∧ i = .int .i64 k ∧ n = .int .i64 (manyN c d s o m k : Nat) ∧ XB wr w.heap.size ⟨op', d, s, o, m⟩ ∧ Below w.heap.size w wr) (fun _ i _ => N - (intOf i).toNat)
  case atStart => exact ⟨0, op, by omega, rfl, rfl, HX0.out, HB0.out⟩
  case round =>
    obtain ⟨k, op', hk, rfl, rfl, hx, hb⟩ := hrel
    by_cases hlt : k < N
    · have hd : decide ((k : Int) < 256) = true := by simp; omega
      have hle := manyN_le c d s o m k
      obtain ⟨x0, x1, x2, x3, x4, f0, f1, f2, f3, f4⟩ := zero_facts hx
      clear f1 f2 f3 f4
      have HX := hid hx
      obtain ⟨M, hM⟩ : ∃ M, manyN c d s o m k = M := ⟨_, rfl⟩
      have HM := hid hM
      rw [hM] at hle ⊢
      clear hM
      have HB := hid hb
      have hxl := hx.lt
      have hsw := hb.size
      clear hx hb
      go_wp2_with fail
      have hX2 : (wr.setCell ⟨w.heap.size, 0, none⟩ (.int .i64 k)).heap[w.heap.size]? = some (.cells #[.int .i64 k, .int .i64 d, .int .i64 s, .int .i64 o, .int .i64 m] 23 (0, 0)) := heap_setCell_same wr w.heap.size 0 _ _ _ HX.out
      have hBB : Below w.heap.size w (wr.setCell ⟨w.heap.size, 0, none⟩ (.int .i64 k)) := HB.out.setCell (p := ⟨w.heap.size, 0, none⟩) (Nat.le_refl _) _
      generalize wr.setCell ⟨w.heap.size, 0, none⟩ (.int .i64 k) = W2 at hX2 hBB ⊢
      clear x0 x1 x2 x3 x4 f0
      have HXX := hid (show XB W2 w.heap.size ⟨k, d, s, o, m⟩ from hX2)
      obtain ⟨x0, x1, x2, x3, x4⟩ := HXX.out.cells
      simp only at x0 x1 x2 x3 x4
      have HBB := hid hBB
      have hl2 := HXX.out.lt
      clear hX2 hBB
      refine (dclass_any (k : Int) W2).mono ?_
      rintro e w' ⟨rfl, rfl⟩
      by_cases hc : (k : Int) % 8 = c
      · have hcc : ((k : Int) % 8 == c) = true := by simpa using hc
        have HCK := hid (fun w => dcheck_any (k : Int) d s o m w (WalkArith.wf_i64 (by omega)))
        unfold insnV at HCK
        obtain ⟨q, hq⟩ : ∃ q, chkD (k : Int) d s o m = q := ⟨_, rfl⟩
        rw [hq] at HCK
        have HQ := hid hq
        clear hq hc
        go_wp2_with fail
        refine (HCK.out _).mono ?_
        rintro e w3 ⟨rfl, hb3⟩
        have HB3 := hid (HBB.out.trans (hb3.mono HBB.out.size))
        have HX3 := hid (show XB w3 w.heap.size ⟨k, d, s, o, m⟩ from (hb3.block w.heap.size hl2).trans HXX.out)
        clear hb3
        by_cases h0 : q = 0
        · have hq0 : (q == 0) = true := by simpa using h0
          have HY := hid (manyN_yes (show manyB c d s o m k = true by unfold manyB; rw [hcc, HQ.out, hq0]; rfl))
          clear h0
          go_wp2_with fail
          go_roundw
          case rel => exact ⟨k + 1, k, by omega, by go_num, by rw [HY.out, HM.out]; go_num, HX3.out, HB3.out⟩
          case measure => simp [intOf]; omega
        · have hq0 : (q == 0) = false := by simpa using h0
          have HY := hid (manyN_no (show manyB c d s o m k = false by unfold manyB; rw [hcc, HQ.out, hq0]; rfl))
          clear h0
          go_wp2_with fail
          go_roundw
          case rel => exact ⟨k + 1, k, by omega, by go_num, by rw [HY.out, HM.out], HX3.out, HB3.out⟩
          case measure => simp [intOf]; omega
      · have hcc : ((k : Int) % 8 == c) = false := by simpa using hc
        have HY := hid (manyN_no (show manyB c d s o m k = false by unfold manyB; rw [hcc]; rfl))
        clear hc
        go_wp2_with fail
        go_roundw
        case rel => exact ⟨k + 1, k, by omega, by go_num, by rw [HY.out, HM.out], HXX.out, HBB.out⟩
        case measure => simp [intOf]; omega
    · obtain rfl : k = 256 := by omega
      clear hlt hk
      clear hN
      have HB := hid hb
      clear hx hb
      go_wp2_with fail
      go_ret
      exact ⟨rfl, HB.out⟩
theorem many_by : manyN 7 0 0 0 16 256 = 12 ∧ manyN 4 0 0 0 16 256 = 14 ∧ manyN 5 0 0 0 16 256 = 12 ∧ manyN 6 0 0 0 16 256 = 11 ∧ manyN 2 0 0 0 16 256 = 4 ∧ manyN 0 0 0 0 16 256 = 1 := ⟨by kernel_rfl, by kernel_rfl, by kernel_rfl, by kernel_rfl, by kernel_rfl, by kernel_rfl⟩
theorem many_from : manyN 7 0 3 0 0 256 = 12 ∧ manyN 4 0 3 0 0 256 = 12 ∧ manyN 5 0 3 0 0 256 = 11 ∧ manyN 6 0 3 0 0 256 = 11 ∧ manyN 1 0 3 0 0 256 = 4 ∧ manyN 3 0 3 0 0 256 = 6 := ⟨by kernel_rfl, by kernel_rfl, by kernel_rfl, by kernel_rfl, by kernel_rfl, by kernel_rfl⟩
end Go.Proofs.Ytccjfnkneiggcaa.Insn
