/-
  Contracts of the document's rows of instructions: Find, has, Atomic, Class, Size.
-/
import Derived.Test.YtccjfnkneiggcaaRefRow
namespace Go.Proofs.Ytccjfnkneiggcaa.Insn
open Go.RowKit Go.Proofs.Ytccjfnkneiggcaa.Num
def findR (op : Int) : RowV :=
  if op < 0 ∨ 255 < op then ⟨false, ⟨#[]⟩, false, 0, 0⟩
  else if op % 8 = 4 ∨ op % 8 = 7 then aluR op
  else if op % 8 = 5 ∨ op % 8 = 6 then jmpR op
  else if op % 8 = 0 then ⟨op == 24, ⟨#[100, 115, 105]⟩, true, -9223372036854775808, 9223372036854775807⟩
  else if op % 8 = 1 then ⟨op / 32 == 3, ⟨#[100, 115, 111]⟩, true, -2147483648, 2147483647⟩
  else if op % 8 = 2 then ⟨op / 32 == 3, ⟨#[100, 111, 105]⟩, false, -2147483648, 2147483647⟩
  else ⟨op / 32 == 3 || op == 195 || op == 219, if op / 32 = 6 then ⟨#[100, 115, 111, 105]⟩ else ⟨#[100, 115, 111]⟩, false, -2147483648, 2147483647⟩
set_option maxHeartbeats 2000000 in
theorem find_any (op : Int) (w : World) :
    Calls Try.prog 39 #[.int .i64 op] w fun e w' => e = .returned (findR op).val ∧ Below w.heap.size w w' := by
  by_cases q0 : op < 0
  · rw [show (findR op).val = .agg #[.bool false, .string ⟨#[]⟩, .bool false, .int .i64 (0), .int .i64 (0)] by unfold findR; rw [if_pos (Or.inl q0)]; rfl]
    have d0 : decide (op < 0) = true := by simpa using q0
    go_enter Try.func39, Try.ntmps39
    go_wp2
    exact bodyPost_ret (v := .agg #[.bool false, .string ⟨#[]⟩, .bool false, .int .i64 (0), .int .i64 (0)]) (by simp [results, Try.results39, go_sem]) rfl ⟨rfl, by first | exact ((Below.refl _ _).alloc (Nat.le_refl _) _).alloc (by simp) _ | exact (Below.refl _ _).alloc (Nat.le_refl _) _⟩
  have d0 : decide (op < 0) = false := by simpa using q0
  by_cases q1 : 255 < op
  · rw [show (findR op).val = .agg #[.bool false, .string ⟨#[]⟩, .bool false, .int .i64 (0), .int .i64 (0)] by unfold findR; rw [if_pos (Or.inr q1)]; rfl]
    have d1 : decide (255 < op) = true := by simpa using q1
    go_enter Try.func39, Try.ntmps39
    go_wp2
    exact bodyPost_ret (v := .agg #[.bool false, .string ⟨#[]⟩, .bool false, .int .i64 (0), .int .i64 (0)]) (by simp [results, Try.results39, go_sem]) rfl ⟨rfl, by first | exact ((Below.refl _ _).alloc (Nat.le_refl _) _).alloc (by simp) _ | exact (Below.refl _ _).alloc (Nat.le_refl _) _⟩
  have d1 : decide (255 < op) = false := by simpa using q1
  have n1 : ¬ (op < 0 ∨ 255 < op) := by omega
  have g0 : 0 ≤ op := by omega
  have g1 : op ≤ 255 := by omega
  clear q0 q1
  by_cases k4 : op % 8 = 4
  · rw [show findR op = aluR op by unfold findR; rw [if_neg n1, if_pos (by omega)]]
    have m4 : (op % 8 == 4) = true := by simp; omega
    have m7 : (op % 8 == 7) = false := by simp; omega
    have m5 : (op % 8 == 5) = false := by simp; omega
    have m6 : (op % 8 == 6) = false := by simp; omega
    have m0 : (op % 8 == 0) = false := by simp; omega
    have m1 : (op % 8 == 1) = false := by simp; omega
    have m2 : (op % 8 == 2) = false := by simp; omega
    have m3 : (op % 8 == 3) = false := by simp; omega
    clear k4 n1
    go_enter Try.func39, Try.ntmps39
    go_wp2_with fail
    refine (alu_any op _ g0 g1).mono ?_
    rintro e w1 ⟨rfl, hb⟩
    unfold RowV.val
    have hB := hb.size
    simp at hB
    have z0 := (hb.cell (p := ⟨w.heap.size, 0, none⟩) (by simp; omega)).trans (show _ = some (Value.bool false) by simp)
    have z1 := (hb.cell (p := ⟨w.heap.size, 1, none⟩) (by simp; omega)).trans (show _ = some (Value.string ⟨#[]⟩) by simp)
    have z2 := (hb.cell (p := ⟨w.heap.size, 2, none⟩) (by simp; omega)).trans (show _ = some (Value.bool false) by simp)
    have z3 := (hb.cell (p := ⟨w.heap.size, 3, none⟩) (by simp; omega)).trans (show _ = some (Value.int .i64 0) by simp)
    have z4 := (hb.cell (p := ⟨w.heap.size, 4, none⟩) (by simp; omega)).trans (show _ = some (Value.int .i64 0) by simp)
    have y0 := (hb.frozen (p := ⟨w.heap.size, 0, none⟩) (by simp; omega)).trans (show _ = false by simp)
    have y1 := (hb.frozen (p := ⟨w.heap.size, 1, none⟩) (by simp; omega)).trans (show _ = false by simp)
    have y2 := (hb.frozen (p := ⟨w.heap.size, 2, none⟩) (by simp; omega)).trans (show _ = false by simp)
    have y3 := (hb.frozen (p := ⟨w.heap.size, 3, none⟩) (by simp; omega)).trans (show _ = false by simp)
    have y4 := (hb.frozen (p := ⟨w.heap.size, 4, none⟩) (by simp; omega)).trans (show _ = false by simp)
    have hbel : Below w.heap.size w w1 := (((Below.refl _ _).alloc (Nat.le_refl _) _).alloc (by simp) _).trans (hb.mono (by simp; omega))
    clear hb
    go_wp2
    exact bodyPost_ret (v := .agg #[.bool (aluR op).is, .string (aluR op).f, .bool (aluR op).wr, .int .i64 (aluR op).lo, .int .i64 (aluR op).hi]) (by simp [results, Try.results39, go_sem, z0, z1, z2, z3, z4]) rfl ⟨rfl, ((((hbel.setCell (Nat.le_refl _) _).setCell (Nat.le_refl _) _).setCell (Nat.le_refl _) _).setCell (Nat.le_refl _) _).setCell (Nat.le_refl _) _⟩
  by_cases k7 : op % 8 = 7
  · rw [show findR op = aluR op by unfold findR; rw [if_neg n1, if_pos (by omega)]]
    have m4 : (op % 8 == 4) = false := by simp; omega
    have m7 : (op % 8 == 7) = true := by simp; omega
    have m5 : (op % 8 == 5) = false := by simp; omega
    have m6 : (op % 8 == 6) = false := by simp; omega
    have m0 : (op % 8 == 0) = false := by simp; omega
    have m1 : (op % 8 == 1) = false := by simp; omega
    have m2 : (op % 8 == 2) = false := by simp; omega
    have m3 : (op % 8 == 3) = false := by simp; omega
    clear k7 n1
    go_enter Try.func39, Try.ntmps39
    go_wp2_with fail
    refine (alu_any op _ g0 g1).mono ?_
    rintro e w1 ⟨rfl, hb⟩
    unfold RowV.val
    have hB := hb.size
    simp at hB
    have z0 := (hb.cell (p := ⟨w.heap.size, 0, none⟩) (by simp; omega)).trans (show _ = some (Value.bool false) by simp)
    have z1 := (hb.cell (p := ⟨w.heap.size, 1, none⟩) (by simp; omega)).trans (show _ = some (Value.string ⟨#[]⟩) by simp)
    have z2 := (hb.cell (p := ⟨w.heap.size, 2, none⟩) (by simp; omega)).trans (show _ = some (Value.bool false) by simp)
    have z3 := (hb.cell (p := ⟨w.heap.size, 3, none⟩) (by simp; omega)).trans (show _ = some (Value.int .i64 0) by simp)
    have z4 := (hb.cell (p := ⟨w.heap.size, 4, none⟩) (by simp; omega)).trans (show _ = some (Value.int .i64 0) by simp)
    have y0 := (hb.frozen (p := ⟨w.heap.size, 0, none⟩) (by simp; omega)).trans (show _ = false by simp)
    have y1 := (hb.frozen (p := ⟨w.heap.size, 1, none⟩) (by simp; omega)).trans (show _ = false by simp)
    have y2 := (hb.frozen (p := ⟨w.heap.size, 2, none⟩) (by simp; omega)).trans (show _ = false by simp)
    have y3 := (hb.frozen (p := ⟨w.heap.size, 3, none⟩) (by simp; omega)).trans (show _ = false by simp)
    have y4 := (hb.frozen (p := ⟨w.heap.size, 4, none⟩) (by simp; omega)).trans (show _ = false by simp)
    have hbel : Below w.heap.size w w1 := (((Below.refl _ _).alloc (Nat.le_refl _) _).alloc (by simp) _).trans (hb.mono (by simp; omega))
    clear hb
    go_wp2
    exact bodyPost_ret (v := .agg #[.bool (aluR op).is, .string (aluR op).f, .bool (aluR op).wr, .int .i64 (aluR op).lo, .int .i64 (aluR op).hi]) (by simp [results, Try.results39, go_sem, z0, z1, z2, z3, z4]) rfl ⟨rfl, ((((hbel.setCell (Nat.le_refl _) _).setCell (Nat.le_refl _) _).setCell (Nat.le_refl _) _).setCell (Nat.le_refl _) _).setCell (Nat.le_refl _) _⟩
  by_cases k5 : op % 8 = 5
  · rw [show findR op = jmpR op by unfold findR; rw [if_neg n1, if_neg (by omega), if_pos (by omega)]]
    have m4 : (op % 8 == 4) = false := by simp; omega
    have m7 : (op % 8 == 7) = false := by simp; omega
    have m5 : (op % 8 == 5) = true := by simp; omega
    have m6 : (op % 8 == 6) = false := by simp; omega
    have m0 : (op % 8 == 0) = false := by simp; omega
    have m1 : (op % 8 == 1) = false := by simp; omega
    have m2 : (op % 8 == 2) = false := by simp; omega
    have m3 : (op % 8 == 3) = false := by simp; omega
    clear k5 n1
    go_enter Try.func39, Try.ntmps39
    go_wp2_with fail
    refine (jmp_any op _ g0 g1).mono ?_
    rintro e w1 ⟨rfl, hb⟩
    unfold RowV.val
    have hB := hb.size
    simp at hB
    have z0 := (hb.cell (p := ⟨w.heap.size, 0, none⟩) (by simp; omega)).trans (show _ = some (Value.bool false) by simp)
    have z1 := (hb.cell (p := ⟨w.heap.size, 1, none⟩) (by simp; omega)).trans (show _ = some (Value.string ⟨#[]⟩) by simp)
    have z2 := (hb.cell (p := ⟨w.heap.size, 2, none⟩) (by simp; omega)).trans (show _ = some (Value.bool false) by simp)
    have z3 := (hb.cell (p := ⟨w.heap.size, 3, none⟩) (by simp; omega)).trans (show _ = some (Value.int .i64 0) by simp)
    have z4 := (hb.cell (p := ⟨w.heap.size, 4, none⟩) (by simp; omega)).trans (show _ = some (Value.int .i64 0) by simp)
    have y0 := (hb.frozen (p := ⟨w.heap.size, 0, none⟩) (by simp; omega)).trans (show _ = false by simp)
    have y1 := (hb.frozen (p := ⟨w.heap.size, 1, none⟩) (by simp; omega)).trans (show _ = false by simp)
    have y2 := (hb.frozen (p := ⟨w.heap.size, 2, none⟩) (by simp; omega)).trans (show _ = false by simp)
    have y3 := (hb.frozen (p := ⟨w.heap.size, 3, none⟩) (by simp; omega)).trans (show _ = false by simp)
    have y4 := (hb.frozen (p := ⟨w.heap.size, 4, none⟩) (by simp; omega)).trans (show _ = false by simp)
    have hbel : Below w.heap.size w w1 := (((Below.refl _ _).alloc (Nat.le_refl _) _).alloc (by simp) _).trans (hb.mono (by simp; omega))
    clear hb
    go_wp2
    exact bodyPost_ret (v := .agg #[.bool (jmpR op).is, .string (jmpR op).f, .bool (jmpR op).wr, .int .i64 (jmpR op).lo, .int .i64 (jmpR op).hi]) (by simp [results, Try.results39, go_sem, z0, z1, z2, z3, z4]) rfl ⟨rfl, ((((hbel.setCell (Nat.le_refl _) _).setCell (Nat.le_refl _) _).setCell (Nat.le_refl _) _).setCell (Nat.le_refl _) _).setCell (Nat.le_refl _) _⟩
  by_cases k6 : op % 8 = 6
  · rw [show findR op = jmpR op by unfold findR; rw [if_neg n1, if_neg (by omega), if_pos (by omega)]]
    have m4 : (op % 8 == 4) = false := by simp; omega
    have m7 : (op % 8 == 7) = false := by simp; omega
    have m5 : (op % 8 == 5) = false := by simp; omega
    have m6 : (op % 8 == 6) = true := by simp; omega
    have m0 : (op % 8 == 0) = false := by simp; omega
    have m1 : (op % 8 == 1) = false := by simp; omega
    have m2 : (op % 8 == 2) = false := by simp; omega
    have m3 : (op % 8 == 3) = false := by simp; omega
    clear k6 n1
    go_enter Try.func39, Try.ntmps39
    go_wp2_with fail
    refine (jmp_any op _ g0 g1).mono ?_
    rintro e w1 ⟨rfl, hb⟩
    unfold RowV.val
    have hB := hb.size
    simp at hB
    have z0 := (hb.cell (p := ⟨w.heap.size, 0, none⟩) (by simp; omega)).trans (show _ = some (Value.bool false) by simp)
    have z1 := (hb.cell (p := ⟨w.heap.size, 1, none⟩) (by simp; omega)).trans (show _ = some (Value.string ⟨#[]⟩) by simp)
    have z2 := (hb.cell (p := ⟨w.heap.size, 2, none⟩) (by simp; omega)).trans (show _ = some (Value.bool false) by simp)
    have z3 := (hb.cell (p := ⟨w.heap.size, 3, none⟩) (by simp; omega)).trans (show _ = some (Value.int .i64 0) by simp)
    have z4 := (hb.cell (p := ⟨w.heap.size, 4, none⟩) (by simp; omega)).trans (show _ = some (Value.int .i64 0) by simp)
    have y0 := (hb.frozen (p := ⟨w.heap.size, 0, none⟩) (by simp; omega)).trans (show _ = false by simp)
    have y1 := (hb.frozen (p := ⟨w.heap.size, 1, none⟩) (by simp; omega)).trans (show _ = false by simp)
    have y2 := (hb.frozen (p := ⟨w.heap.size, 2, none⟩) (by simp; omega)).trans (show _ = false by simp)
    have y3 := (hb.frozen (p := ⟨w.heap.size, 3, none⟩) (by simp; omega)).trans (show _ = false by simp)
    have y4 := (hb.frozen (p := ⟨w.heap.size, 4, none⟩) (by simp; omega)).trans (show _ = false by simp)
    have hbel : Below w.heap.size w w1 := (((Below.refl _ _).alloc (Nat.le_refl _) _).alloc (by simp) _).trans (hb.mono (by simp; omega))
    clear hb
    go_wp2
    exact bodyPost_ret (v := .agg #[.bool (jmpR op).is, .string (jmpR op).f, .bool (jmpR op).wr, .int .i64 (jmpR op).lo, .int .i64 (jmpR op).hi]) (by simp [results, Try.results39, go_sem, z0, z1, z2, z3, z4]) rfl ⟨rfl, ((((hbel.setCell (Nat.le_refl _) _).setCell (Nat.le_refl _) _).setCell (Nat.le_refl _) _).setCell (Nat.le_refl _) _).setCell (Nat.le_refl _) _⟩
  by_cases k0 : op % 8 = 0
  · rw [show (findR op).val = .agg #[.bool (op == 24), .string ⟨#[100, 115, 105]⟩, .bool true, .int .i64 (-9223372036854775808), .int .i64 (9223372036854775807)] by unfold findR; rw [if_neg n1, if_neg (by omega), if_neg (by omega), if_pos k0]; rfl]
    have m4 : (op % 8 == 4) = false := by simp; omega
    have m7 : (op % 8 == 7) = false := by simp; omega
    have m5 : (op % 8 == 5) = false := by simp; omega
    have m6 : (op % 8 == 6) = false := by simp; omega
    have m0 : (op % 8 == 0) = true := by simp; omega
    have m1 : (op % 8 == 1) = false := by simp; omega
    have m2 : (op % 8 == 2) = false := by simp; omega
    have m3 : (op % 8 == 3) = false := by simp; omega
    clear n1
    go_enter Try.func39, Try.ntmps39
    go_wp2
    exact bodyPost_ret (v := .agg #[.bool (op == 24), .string ⟨#[100, 115, 105]⟩, .bool true, .int .i64 (-9223372036854775808), .int .i64 (9223372036854775807)]) (by simp [results, Try.results39, go_sem]) rfl ⟨rfl, by first | exact ((Below.refl _ _).alloc (Nat.le_refl _) _).alloc (by simp) _ | exact (Below.refl _ _).alloc (Nat.le_refl _) _⟩
  by_cases k1 : op % 8 = 1
  · rw [show (findR op).val = .agg #[.bool (op / 32 == 3), .string ⟨#[100, 115, 111]⟩, .bool true, .int .i64 (-2147483648), .int .i64 (2147483647)] by unfold findR; rw [if_neg n1, if_neg (by omega), if_neg (by omega), if_neg k0, if_pos k1]; rfl]
    have m4 : (op % 8 == 4) = false := by simp; omega
    have m7 : (op % 8 == 7) = false := by simp; omega
    have m5 : (op % 8 == 5) = false := by simp; omega
    have m6 : (op % 8 == 6) = false := by simp; omega
    have m0 : (op % 8 == 0) = false := by simp; omega
    have m1 : (op % 8 == 1) = true := by simp; omega
    have m2 : (op % 8 == 2) = false := by simp; omega
    have m3 : (op % 8 == 3) = false := by simp; omega
    clear n1
    go_enter Try.func39, Try.ntmps39
    go_wp2
    exact bodyPost_ret (v := .agg #[.bool (op / 32 == 3), .string ⟨#[100, 115, 111]⟩, .bool true, .int .i64 (-2147483648), .int .i64 (2147483647)]) (by simp [results, Try.results39, go_sem]) rfl ⟨rfl, by first | exact ((Below.refl _ _).alloc (Nat.le_refl _) _).alloc (by simp) _ | exact (Below.refl _ _).alloc (Nat.le_refl _) _⟩
  by_cases k2 : op % 8 = 2
  · rw [show (findR op).val = .agg #[.bool (op / 32 == 3), .string ⟨#[100, 111, 105]⟩, .bool false, .int .i64 (-2147483648), .int .i64 (2147483647)] by unfold findR; rw [if_neg n1, if_neg (by omega), if_neg (by omega), if_neg k0, if_neg k1, if_pos k2]; rfl]
    have m4 : (op % 8 == 4) = false := by simp; omega
    have m7 : (op % 8 == 7) = false := by simp; omega
    have m5 : (op % 8 == 5) = false := by simp; omega
    have m6 : (op % 8 == 6) = false := by simp; omega
    have m0 : (op % 8 == 0) = false := by simp; omega
    have m1 : (op % 8 == 1) = false := by simp; omega
    have m2 : (op % 8 == 2) = true := by simp; omega
    have m3 : (op % 8 == 3) = false := by simp; omega
    clear n1
    go_enter Try.func39, Try.ntmps39
    go_wp2
    exact bodyPost_ret (v := .agg #[.bool (op / 32 == 3), .string ⟨#[100, 111, 105]⟩, .bool false, .int .i64 (-2147483648), .int .i64 (2147483647)]) (by simp [results, Try.results39, go_sem]) rfl ⟨rfl, by first | exact ((Below.refl _ _).alloc (Nat.le_refl _) _).alloc (by simp) _ | exact (Below.refl _ _).alloc (Nat.le_refl _) _⟩
  by_cases p291 : op / 32 = 3
  · rw [show (findR op).val = .agg #[.bool true, .string ⟨#[100, 115, 111]⟩, .bool false, .int .i64 (-2147483648), .int .i64 (2147483647)] by unfold findR; rw [if_neg n1, if_neg (by omega), if_neg (by omega), if_neg k0, if_neg k1, if_neg k2, show (op / 32 == 3 || op == 195 || op == 219) = true by simp; omega, if_neg (by omega)]; rfl]
    have m4 : (op % 8 == 4) = false := by simp; omega
    have m7 : (op % 8 == 7) = false := by simp; omega
    have m5 : (op % 8 == 5) = false := by simp; omega
    have m6 : (op % 8 == 6) = false := by simp; omega
    have m0 : (op % 8 == 0) = false := by simp; omega
    have m1 : (op % 8 == 1) = false := by simp; omega
    have m2 : (op % 8 == 2) = false := by simp; omega
    have m3 : (op % 8 == 3) = true := by simp; omega
    have x0 : (op / 32 == 3) = true := by simp; omega
    have x1 : (op / 32 == 6) = false := by simp; omega
    clear n1
    go_enter Try.func39, Try.ntmps39
    go_wp2
    exact bodyPost_ret (v := .agg #[.bool true, .string ⟨#[100, 115, 111]⟩, .bool false, .int .i64 (-2147483648), .int .i64 (2147483647)]) (by simp [results, Try.results39, go_sem]) rfl ⟨rfl, by first | exact ((Below.refl _ _).alloc (Nat.le_refl _) _).alloc (by simp) _ | exact (Below.refl _ _).alloc (Nat.le_refl _) _⟩
  by_cases p545 : op = 195
  · rw [show (findR op).val = .agg #[.bool true, .string ⟨#[100, 115, 111, 105]⟩, .bool false, .int .i64 (-2147483648), .int .i64 (2147483647)] by unfold findR; rw [if_neg n1, if_neg (by omega), if_neg (by omega), if_neg k0, if_neg k1, if_neg k2, show (op / 32 == 3 || op == 195 || op == 219) = true by simp; omega, if_pos (by omega)]; rfl]
    have m4 : (op % 8 == 4) = false := by simp; omega
    have m7 : (op % 8 == 7) = false := by simp; omega
    have m5 : (op % 8 == 5) = false := by simp; omega
    have m6 : (op % 8 == 6) = false := by simp; omega
    have m0 : (op % 8 == 0) = false := by simp; omega
    have m1 : (op % 8 == 1) = false := by simp; omega
    have m2 : (op % 8 == 2) = false := by simp; omega
    have m3 : (op % 8 == 3) = true := by simp; omega
    have x0 : (op / 32 == 3) = false := by simp; omega
    have x1 : (op == 195) = true := by simp; omega
    have x2 : (op / 32 == 6) = true := by simp; omega
    clear n1
    go_enter Try.func39, Try.ntmps39
    go_wp2
    exact bodyPost_ret (v := .agg #[.bool true, .string ⟨#[100, 115, 111, 105]⟩, .bool false, .int .i64 (-2147483648), .int .i64 (2147483647)]) (by simp [results, Try.results39, go_sem]) rfl ⟨rfl, by first | exact ((Below.refl _ _).alloc (Nat.le_refl _) _).alloc (by simp) _ | exact (Below.refl _ _).alloc (Nat.le_refl _) _⟩
  by_cases p377 : op = 219
  · rw [show (findR op).val = .agg #[.bool true, .string ⟨#[100, 115, 111, 105]⟩, .bool false, .int .i64 (-2147483648), .int .i64 (2147483647)] by unfold findR; rw [if_neg n1, if_neg (by omega), if_neg (by omega), if_neg k0, if_neg k1, if_neg k2, show (op / 32 == 3 || op == 195 || op == 219) = true by simp; omega, if_pos (by omega)]; rfl]
    have m4 : (op % 8 == 4) = false := by simp; omega
    have m7 : (op % 8 == 7) = false := by simp; omega
    have m5 : (op % 8 == 5) = false := by simp; omega
    have m6 : (op % 8 == 6) = false := by simp; omega
    have m0 : (op % 8 == 0) = false := by simp; omega
    have m1 : (op % 8 == 1) = false := by simp; omega
    have m2 : (op % 8 == 2) = false := by simp; omega
    have m3 : (op % 8 == 3) = true := by simp; omega
    have x0 : (op / 32 == 3) = false := by simp; omega
    have x1 : (op == 195) = false := by simp; omega
    have x2 : (op == 219) = true := by simp; omega
    have x3 : (op / 32 == 6) = true := by simp; omega
    clear n1
    go_enter Try.func39, Try.ntmps39
    go_wp2
    exact bodyPost_ret (v := .agg #[.bool true, .string ⟨#[100, 115, 111, 105]⟩, .bool false, .int .i64 (-2147483648), .int .i64 (2147483647)]) (by simp [results, Try.results39, go_sem]) rfl ⟨rfl, by first | exact ((Below.refl _ _).alloc (Nat.le_refl _) _).alloc (by simp) _ | exact (Below.refl _ _).alloc (Nat.le_refl _) _⟩
  by_cases p496 : op / 32 = 6
  · rw [show (findR op).val = .agg #[.bool false, .string ⟨#[100, 115, 111, 105]⟩, .bool false, .int .i64 (-2147483648), .int .i64 (2147483647)] by unfold findR; rw [if_neg n1, if_neg (by omega), if_neg (by omega), if_neg k0, if_neg k1, if_neg k2, show (op / 32 == 3 || op == 195 || op == 219) = false by simp; omega, if_pos (by omega)]; rfl]
    have m4 : (op % 8 == 4) = false := by simp; omega
    have m7 : (op % 8 == 7) = false := by simp; omega
    have m5 : (op % 8 == 5) = false := by simp; omega
    have m6 : (op % 8 == 6) = false := by simp; omega
    have m0 : (op % 8 == 0) = false := by simp; omega
    have m1 : (op % 8 == 1) = false := by simp; omega
    have m2 : (op % 8 == 2) = false := by simp; omega
    have m3 : (op % 8 == 3) = true := by simp; omega
    have x0 : (op / 32 == 3) = false := by simp; omega
    have x1 : (op == 195) = false := by simp; omega
    have x2 : (op == 219) = false := by simp; omega
    have x3 : (op / 32 == 6) = true := by simp; omega
    clear n1
    go_enter Try.func39, Try.ntmps39
    go_wp2
    exact bodyPost_ret (v := .agg #[.bool false, .string ⟨#[100, 115, 111, 105]⟩, .bool false, .int .i64 (-2147483648), .int .i64 (2147483647)]) (by simp [results, Try.results39, go_sem]) rfl ⟨rfl, by first | exact ((Below.refl _ _).alloc (Nat.le_refl _) _).alloc (by simp) _ | exact (Below.refl _ _).alloc (Nat.le_refl _) _⟩
  rw [show (findR op).val = .agg #[.bool false, .string ⟨#[100, 115, 111]⟩, .bool false, .int .i64 (-2147483648), .int .i64 (2147483647)] by unfold findR; rw [if_neg n1, if_neg (by omega), if_neg (by omega), if_neg k0, if_neg k1, if_neg k2, show (op / 32 == 3 || op == 195 || op == 219) = false by simp; omega, if_neg (by omega)]; rfl]
  have m4 : (op % 8 == 4) = false := by simp; omega
  have m7 : (op % 8 == 7) = false := by simp; omega
  have m5 : (op % 8 == 5) = false := by simp; omega
  have m6 : (op % 8 == 6) = false := by simp; omega
  have m0 : (op % 8 == 0) = false := by simp; omega
  have m1 : (op % 8 == 1) = false := by simp; omega
  have m2 : (op % 8 == 2) = false := by simp; omega
  have m3 : (op % 8 == 3) = true := by simp; omega
  have x0 : (op / 32 == 3) = false := by simp; omega
  have x1 : (op == 195) = false := by simp; omega
  have x2 : (op == 219) = false := by simp; omega
  have x3 : (op / 32 == 6) = false := by simp; omega
  clear n1
  go_enter Try.func39, Try.ntmps39
  go_wp2
  exact bodyPost_ret (v := .agg #[.bool false, .string ⟨#[100, 115, 111]⟩, .bool false, .int .i64 (-2147483648), .int .i64 (2147483647)]) (by simp [results, Try.results39, go_sem]) rfl ⟨rfl, by first | exact ((Below.refl _ _).alloc (Nat.le_refl _) _).alloc (by simp) _ | exact (Below.refl _ _).alloc (Nat.le_refl _) _⟩
end Go.Proofs.Ytccjfnkneiggcaa.Insn
