/-
  Contracts of the program's instructions: length, bytesOf.
-/
import Derived.Test.YtpknnmnknaaccaaInsD
import Derived.Test.YtpknnmnknaaccaaPutA
import Derived.Test.YtpknnmnknaaccaaChkEq
namespace Go.Proofs.Ytpknnmnknaaccaa.Insn
open Go.RowKit Go.Proofs.Ytpknnmnknaaccaa.Num Go.Proofs.Ytpknnmnknaaccaa.ListB Go.Proofs.Ytpknnmnknaaccaa.Bytes
theorem below_ofB {w W w' : World} {mb : Nat} (h : Below w.heap.size w W) (hg : W.grownBy w' (some mb)) (hm : w.heap.size ≤ mb) : Below w.heap.size w w' := h.grown hg h.size (fun k hk => by cases hk; exact hm)
theorem join_all : ((List.range 11).all fun s => (List.range 11).all fun d => decide (bits .or .i64 (wrap64 ((s : Int) * 16)) (d : Int) = (d : Int) + 16 * (s : Int))) = true := by kernel_rfl
theorem join_sd (s d : Int) (s0 : 0 ≤ s) (s1 : s ≤ 10) (d0 : 0 ≤ d) (d1 : d ≤ 10) : bits .or .i64 (s * 16) d = d + 16 * s := by
  have a := List.all_eq_true.1 (List.all_eq_true.1 join_all s.toNat (List.mem_range.2 (by omega))) d.toNat (List.mem_range.2 (by omega))
  rw [decide_eq_true_eq, Int.toNat_of_nonneg s0, Int.toNat_of_nonneg d0] at a
  rw [← a]
  have e : wrap64 (s * 16) = s * 16 := by unfold wrap64; omega
  rw [e]
def bytes8 (x : In) : List Int := putK (putK (((List.replicate 8 (0 : Int)).set 0 x.op).set 1 (x.d + 16 * x.s)) 2 (unsig x.o) 2) 4 (unsig x.m) 4
def bytes16 (x : In) : List Int := putK (putK (putK (((List.replicate 16 (0 : Int)).set 0 x.op).set 1 (x.d + 16 * x.s)) 2 (unsig x.o) 2) 4 (unsig x.m) 4) 12 (unsig x.m / 4294967296) 4
theorem bytes8_eq (x : In) (h : x.op ≠ 24) : bytes8 x = encOne x := by
  unfold bytes8 encOne
  rw [if_neg h, laidL_2, laidL_4]
  generalize unsig x.m = v
  generalize unsig x.o = u
  simp [putK, List.replicate]
theorem bytes16_eq (x : In) (h : x.op = 24) : bytes16 x = encOne x := by
  unfold bytes16 encOne
  rw [if_pos h, laidL_2, laidL_4, laidL_8d]
  generalize unsig x.m = v
  generalize unsig x.o = u
  simp [putK, List.replicate, Nat.div_div_eq_div_mul]
theorem made_facts {W w1 : World} {X n : Nat} {op d s o m : Int} (hn : 2 ≤ n) (hown : w1.ownsRow W.heap.size 5 1 (.slice (some ⟨W.heap.size, 0, none⟩) n n) n (madeCells (Value.int .u8 0).cells (n * 1)).toList) (hg : W.grownBy w1 none)
    (x0 : W.cell? ⟨X, 0, none⟩ = some (.int .i64 op)) (x1 : W.cell? ⟨X, 1, none⟩ = some (.int .i64 d)) (x2 : W.cell? ⟨X, 2, none⟩ = some (.int .i64 s)) (x3 : W.cell? ⟨X, 3, none⟩ = some (.int .i64 o)) (x4 : W.cell? ⟨X, 4, none⟩ = some (.int .i64 m)) :
    w1.cell? ⟨X, 0, none⟩ = some (.int .i64 op) ∧ w1.cell? ⟨X, 1, none⟩ = some (.int .i64 d) ∧ w1.cell? ⟨X, 2, none⟩ = some (.int .i64 s) ∧ w1.cell? ⟨X, 3, none⟩ = some (.int .i64 o) ∧ w1.cell? ⟨X, 4, none⟩ = some (.int .i64 m) ∧
    w1.cell? ⟨W.heap.size, 0, none⟩ = some (.int .u8 0) ∧ w1.cell? ⟨W.heap.size, 1, none⟩ = some (.int .u8 0) ∧ w1.frozen? ⟨W.heap.size, 0, none⟩ = false ∧ w1.frozen? ⟨W.heap.size, 1, none⟩ = false ∧
    Hid (∀ a b : Int, ((w1.setCell ⟨W.heap.size, 0, none⟩ (.int .u8 a)).setCell ⟨W.heap.size, 1, none⟩ (.int .u8 b)).ownsRow W.heap.size 5 1 (.slice (some ⟨W.heap.size, 0, none⟩) n n) n (V (((List.replicate n (0 : Int)).set 0 a).set 1 b))) ∧
    Hid (∀ a b : Int, W.grownBy ((w1.setCell ⟨W.heap.size, 0, none⟩ (.int .u8 a)).setCell ⟨W.heap.size, 1, none⟩ (.int .u8 b)) (some W.heap.size)) := by
  have hV : w1.ownsRow W.heap.size 5 1 (.slice (some ⟨W.heap.size, 0, none⟩) n n) n (V (List.replicate n 0)) := by
    unfold V; rw [List.map_replicate]
    rw [show (Value.int IntKind.u8 0).cells = #[.int .u8 0] from rfl, toList_madeCells_one, Nat.mul_one] at hown
    exact hown
  have up : ∀ {i : Nat} {v : Value}, W.cell? ⟨X, i, none⟩ = some v → w1.cell? ⟨X, i, none⟩ = some v := fun h => hg.cell h (by simp)
  have cz : ∀ i, i < n → w1.cell? ⟨W.heap.size, i, none⟩ = some (.int .u8 0) := fun i hi => by
    rw [hV.cellAt i (by omega), V_get _ _ (by simpa using hi)]
    simp [List.getD_eq_getElem?_getD, hi]
  refine ⟨up x0, up x1, up x2, up x3, up x4, cz 0 (by omega), cz 1 (by omega), hV.frozenAt 0, hV.frozenAt 1, hid fun a b => ?_, hid fun a b => ?_⟩
  · have s0 := (hV.stored 0 (.int .u8 a)).1
    rw [V_set] at s0
    have s1 := (s0.stored 1 (.int .u8 b)).1
    rw [V_set] at s1
    exact s1
  · have s0 := hV.stored 0 (.int .u8 a)
    have s1 := s0.1.stored 1 (.int .u8 b)
    exact grownBy_trans' (⟨hg.os, hg.tape, hg.output, hg.size, fun k hk _ => hg.block k hk (by simp)⟩ : W.grownBy w1 (some W.heap.size)) (grownBy_trans' s0.2 s1.2)
end Go.Proofs.Ytpknnmnknaaccaa.Insn
