/-
  Plain facts of the law InsnKnown's last part.
-/
import Derived.Test.YtccjfnkneiggcaaKnownB
import Derived.Deep.RegionHeld3
import Derived.Deep.DeepCutAuto
namespace Go.Proofs.Ytccjfnkneiggcaa.Insn
open Go.RowKit Go.Proofs.Ytccjfnkneiggcaa.Num Go.Proofs.Ytccjfnkneiggcaa.ListB
theorem rep_part {w : World} {g : Nat} (h : NRow w g 0 (List.replicate 257 xE)) : NRow w g 0 (List.replicate 256 xE) := by
  have t := nrow_take h 256
  rw [List.take_replicate] at t
  exact t
theorem rep_putOk : putErr (List.replicate 256 xE) = 0 := putErr_ok (by rw [List.length_replicate]; omega) (rep_ok 256)
theorem rep_putL : putL (List.replicate 256 xE) = enc (List.replicate 256 xE) := putL_ok rep_putOk
theorem rep_small : (enc (List.replicate 256 xE)).length + ([149, 0, 0, 0, 0, 0, 0, 0] : List Int).length ≤ 100000 := by
  have h := enc_le (List.replicate 256 xE)
  rw [List.length_replicate] at h
  simp only [List.length_cons, List.length_nil]
  omega
theorem rep_bd : ∀ i, 0 ≤ (enc (List.replicate 256 xE) ++ [149, 0, 0, 0, 0, 0, 0, 0]).getD i 0 ∧ (enc (List.replicate 256 xE) ++ [149, 0, 0, 0, 0, 0, 0, 0]).getD i 0 ≤ 255 := bd_of fun z hz => by
  rcases List.mem_append.1 hz with h | h
  · exact enc_bd (rep_ok 256) z h
  · simp only [List.mem_cons, List.not_mem_nil, or_false] at h
    omega
theorem lit8 (w : World) : (w.alloc (.cells #[.int .u8 149, .int .u8 0, .int .u8 0, .int .u8 0, .int .u8 0, .int .u8 0, .int .u8 0, .int .u8 0] 5)).ownsRow w.heap.size 5 1 (.slice (some ⟨w.heap.size, 0, none⟩) 8 8) ([149, 0, 0, 0, 0, 0, 0, 0] : List Int).length (V [149, 0, 0, 0, 0, 0, 0, 0]) :=
  World.ownsRow_lit (base := w.heap.size) (e := 5) (size := 1) w #[.int .u8 149, .int .u8 0, .int .u8 0, .int .u8 0, .int .u8 0, .int .u8 0, .int .u8 0, .int .u8 0] 8 (Nat.le_refl _) (by unfold maxLen; omega) rfl
theorem lit16 (w : World) : Calls Try.prog 25 #[.slice (some ⟨w.heap.size, 0, none⟩) 16 16] (w.alloc (.cells #[.int .u8 24, .int .u8 0, .int .u8 0, .int .u8 0, .int .u8 0, .int .u8 0, .int .u8 0, .int .u8 0, .int .u8 1, .int .u8 0, .int .u8 0, .int .u8 0, .int .u8 0, .int .u8 0, .int .u8 0, .int .u8 0] 5)) (GetPost (w.alloc (.cells #[.int .u8 24, .int .u8 0, .int .u8 0, .int .u8 0, .int .u8 0, .int .u8 0, .int .u8 0, .int .u8 0, .int .u8 1, .int .u8 0, .int .u8 0, .int .u8 0, .int .u8 0, .int .u8 0, .int .u8 0, .int .u8 0] 5)) ([], 9)) := by
  have h := World.ownsRow_lit (base := w.heap.size) (e := 5) (size := 1) w #[.int .u8 24, .int .u8 0, .int .u8 0, .int .u8 0, .int .u8 0, .int .u8 0, .int .u8 0, .int .u8 0, .int .u8 1, .int .u8 0, .int .u8 0, .int .u8 0, .int .u8 0, .int .u8 0, .int .u8 0, .int .u8 0] 16 (Nat.le_refl _) (by unfold maxLen; omega) rfl
  have h' : (w.alloc (.cells #[.int .u8 24, .int .u8 0, .int .u8 0, .int .u8 0, .int .u8 0, .int .u8 0, .int .u8 0, .int .u8 0, .int .u8 1, .int .u8 0, .int .u8 0, .int .u8 0, .int .u8 0, .int .u8 0, .int .u8 0, .int .u8 0] 5)).ownsRow w.heap.size 5 1 (.slice (some ⟨w.heap.size, 0, none⟩) 16 16) 16 (V [24, 0, 0, 0, 0, 0, 0, 0, 1, 0, 0, 0, 0, 0, 0, 0]) := h
  have a := own_argB h' (bd_of (by decide))
  have t := dget_any _ 16 16 [24, 0, 0, 0, 0, 0, 0, 0, 1, 0, 0, 0, 0, 0, 0, 0] _ a.1 a.2.1 a.2.2
  rw [show getR [24, 0, 0, 0, 0, 0, 0, 0, 1, 0, 0, 0, 0, 0, 0, 0] = ([], 9) by kernel_rfl] at t
  exact t
end Go.Proofs.Ytccjfnkneiggcaa.Insn
