/-
  Contracts of the program's instructions: Check.
-/
import Derived.Test.YtpknnmnknaaccaaDevRowsOf
import Derived.Test.YtpknnmnknaaccaaDevZero
import Derived.Deep.RegionHeld3
import Derived.Deep.DeepCutAuto
namespace Go.Proofs.Ytpknnmnknaaccaa.Insn
open Go.RowKit Go.Proofs.Ytpknnmnknaaccaa.Num Go.Maps
theorem zeroRow (w : World) : (zeroValue 60).run Try.prog w = .ok (.agg #[.slice none 0 0, .int .u8 0, .int .u8 0, .bool false, .int .u8 0]) w := by kernel_rfl
theorem rowElem_zero : rowElem (.agg #[.slice none 0 0, .int .u8 0, .int .u8 0, .bool false, .int .u8 0]) = some ((FV.mk 0 0 false 0).data, []) := rfl
theorem data_inj {f g : FV} (h : f.data = g.data) : f = g := by
  cases f; cases g; unfold FV.data at h; simp at h; simp [h]
theorem tab_look {w : World} {mb n : Nat} {F : Fun} (h : Tab w mb n F) (k : Int) (hk : (Lit.int .i64 k).wf = true) :
    ∃ a p c, (Instr.lookup 63 (.map (some mb)) (.int .i64 k) true).run Try.prog w = .ok (.tuple #[.agg #[.slice a p c, .int .u8 ((F k).getD ⟨0, 0, false, 0⟩).dst, .int .u8 ((F k).getD ⟨0, 0, false, 0⟩).src, .bool ((F k).getD ⟨0, 0, false, 0⟩).off, .int .u8 ((F k).getD ⟨0, 0, false, 0⟩).imm], .bool (F k).isSome]) w := by
  obtain ⟨D, hown, hD, hT⟩ := h
  have t := hT k
  obtain ⟨v, ps, hrun, hR⟩ := hown.look_ok law Try.underlying63 (zeroRow w) rowElem_zero (keyOf_int_mk Try.underlying3 hk)
  obtain ⟨a, p, c, f, rfl, hd⟩ := rowElem_inv hR
  cases hF : F k with
  | none =>
    rw [hF] at t
    have e := atKey_of_not_has t (FV.mk 0 0 false 0).data
    rw [e] at hd
    obtain rfl := data_inj hd
    rw [show has D (.int .i64 k) = false from t] at hrun
    exact ⟨a, p, c, hrun⟩
  | some g =>
    rw [hF] at t
    rw [t.2] at hd
    obtain rfl := data_inj hd
    rw [t.1] at hrun
    exact ⟨a, p, c, hrun⟩
theorem chS_drew {W w1 : World} {X : Nat} {op d s o m : Int} (h : (w1.cell? ⟨X, 0, none⟩ = some (.int .i64 op) ∧ w1.cell? ⟨X, 1, none⟩ = some (.int .i64 d) ∧ w1.cell? ⟨X, 2, none⟩ = some (.int .i64 s) ∧ w1.cell? ⟨X, 3, none⟩ = some (.int .i64 o) ∧ w1.cell? ⟨X, 4, none⟩ = some (.int .i64 m) ∧ Below W.heap.size W w1)) : (w1.drew.cell? ⟨X, 0, none⟩ = some (.int .i64 op) ∧ w1.drew.cell? ⟨X, 1, none⟩ = some (.int .i64 d) ∧ w1.drew.cell? ⟨X, 2, none⟩ = some (.int .i64 s) ∧ w1.drew.cell? ⟨X, 3, none⟩ = some (.int .i64 o) ∧ w1.drew.cell? ⟨X, 4, none⟩ = some (.int .i64 m) ∧ Below W.heap.size W w1.drew) := ⟨h.1, h.2.1, h.2.2.1, h.2.2.2.1, h.2.2.2.2.1, h.2.2.2.2.2.drew⟩
theorem chS_up {W w1 w2 : World} {X : Nat} {op d s o m : Int} (hX : X < W.heap.size) (h : (w1.cell? ⟨X, 0, none⟩ = some (.int .i64 op) ∧ w1.cell? ⟨X, 1, none⟩ = some (.int .i64 d) ∧ w1.cell? ⟨X, 2, none⟩ = some (.int .i64 s) ∧ w1.cell? ⟨X, 3, none⟩ = some (.int .i64 o) ∧ w1.cell? ⟨X, 4, none⟩ = some (.int .i64 m) ∧ Below W.heap.size W w1)) (hb : Below w1.heap.size w1 w2) : (w2.cell? ⟨X, 0, none⟩ = some (.int .i64 op) ∧ w2.cell? ⟨X, 1, none⟩ = some (.int .i64 d) ∧ w2.cell? ⟨X, 2, none⟩ = some (.int .i64 s) ∧ w2.cell? ⟨X, 3, none⟩ = some (.int .i64 o) ∧ w2.cell? ⟨X, 4, none⟩ = some (.int .i64 m) ∧ Below W.heap.size W w2) := by
  have hs := h.2.2.2.2.2.size
  exact ⟨cell_up h.1 hb (by omega), cell_up h.2.1 hb (by omega), cell_up h.2.2.1 hb (by omega), cell_up h.2.2.2.1 hb (by omega), cell_up h.2.2.2.2.1 hb (by omega), h.2.2.2.2.2.trans (hb.mono hs)⟩
theorem chS_alloc {W w1 : World} {X : Nat} {op d s o m : Int} (hX : X < W.heap.size) (h : (w1.cell? ⟨X, 0, none⟩ = some (.int .i64 op) ∧ w1.cell? ⟨X, 1, none⟩ = some (.int .i64 d) ∧ w1.cell? ⟨X, 2, none⟩ = some (.int .i64 s) ∧ w1.cell? ⟨X, 3, none⟩ = some (.int .i64 o) ∧ w1.cell? ⟨X, 4, none⟩ = some (.int .i64 m) ∧ Below W.heap.size W w1)) (x : Obj) : ((w1.alloc x).cell? ⟨X, 0, none⟩ = some (.int .i64 op) ∧ (w1.alloc x).cell? ⟨X, 1, none⟩ = some (.int .i64 d) ∧ (w1.alloc x).cell? ⟨X, 2, none⟩ = some (.int .i64 s) ∧ (w1.alloc x).cell? ⟨X, 3, none⟩ = some (.int .i64 o) ∧ (w1.alloc x).cell? ⟨X, 4, none⟩ = some (.int .i64 m) ∧ Below W.heap.size W (w1.alloc x)) := chS_up hX h (below_new _ _)
theorem chS_low {W w1 w2 : World} {X : Nat} {op d s o m : Int} (hX : X < W.heap.size) (h : (w1.cell? ⟨X, 0, none⟩ = some (.int .i64 op) ∧ w1.cell? ⟨X, 1, none⟩ = some (.int .i64 d) ∧ w1.cell? ⟨X, 2, none⟩ = some (.int .i64 s) ∧ w1.cell? ⟨X, 3, none⟩ = some (.int .i64 o) ∧ w1.cell? ⟨X, 4, none⟩ = some (.int .i64 m) ∧ Below W.heap.size W w1)) (hb : Below W.heap.size w1 w2) : (w2.cell? ⟨X, 0, none⟩ = some (.int .i64 op) ∧ w2.cell? ⟨X, 1, none⟩ = some (.int .i64 d) ∧ w2.cell? ⟨X, 2, none⟩ = some (.int .i64 s) ∧ w2.cell? ⟨X, 3, none⟩ = some (.int .i64 o) ∧ w2.cell? ⟨X, 4, none⟩ = some (.int .i64 m) ∧ Below W.heap.size W w2) :=
  ⟨cell_up h.1 hb hX, cell_up h.2.1 hb hX, cell_up h.2.2.1 hb hX, cell_up h.2.2.2.1 hb hX, cell_up h.2.2.2.2.1 hb hX, h.2.2.2.2.2.trans hb⟩
theorem chS_set5 {W w1 : World} {X z : Nat} {op d s o m : Int} (hX : X < W.heap.size) (hz : W.heap.size ≤ z) (h : (w1.cell? ⟨X, 0, none⟩ = some (.int .i64 op) ∧ w1.cell? ⟨X, 1, none⟩ = some (.int .i64 d) ∧ w1.cell? ⟨X, 2, none⟩ = some (.int .i64 s) ∧ w1.cell? ⟨X, 3, none⟩ = some (.int .i64 o) ∧ w1.cell? ⟨X, 4, none⟩ = some (.int .i64 m) ∧ Below W.heap.size W w1)) (v0 v1 v2 v3 v4 : Value) : ((((((w1.setCell ⟨z, 0, none⟩ v0).setCell ⟨z, 1, none⟩ v1).setCell ⟨z, 2, none⟩ v2).setCell ⟨z, 3, none⟩ v3).setCell ⟨z, 4, none⟩ v4).cell? ⟨X, 0, none⟩ = some (.int .i64 op) ∧ (((((w1.setCell ⟨z, 0, none⟩ v0).setCell ⟨z, 1, none⟩ v1).setCell ⟨z, 2, none⟩ v2).setCell ⟨z, 3, none⟩ v3).setCell ⟨z, 4, none⟩ v4).cell? ⟨X, 1, none⟩ = some (.int .i64 d) ∧ (((((w1.setCell ⟨z, 0, none⟩ v0).setCell ⟨z, 1, none⟩ v1).setCell ⟨z, 2, none⟩ v2).setCell ⟨z, 3, none⟩ v3).setCell ⟨z, 4, none⟩ v4).cell? ⟨X, 2, none⟩ = some (.int .i64 s) ∧ (((((w1.setCell ⟨z, 0, none⟩ v0).setCell ⟨z, 1, none⟩ v1).setCell ⟨z, 2, none⟩ v2).setCell ⟨z, 3, none⟩ v3).setCell ⟨z, 4, none⟩ v4).cell? ⟨X, 3, none⟩ = some (.int .i64 o) ∧ (((((w1.setCell ⟨z, 0, none⟩ v0).setCell ⟨z, 1, none⟩ v1).setCell ⟨z, 2, none⟩ v2).setCell ⟨z, 3, none⟩ v3).setCell ⟨z, 4, none⟩ v4).cell? ⟨X, 4, none⟩ = some (.int .i64 m) ∧ Below W.heap.size W (((((w1.setCell ⟨z, 0, none⟩ v0).setCell ⟨z, 1, none⟩ v1).setCell ⟨z, 2, none⟩ v2).setCell ⟨z, 3, none⟩ v3).setCell ⟨z, 4, none⟩ v4)) :=
  chS_low hX h ((((((Below.refl _ _).setCell hz v0).setCell hz v1).setCell hz v2).setCell hz v3).setCell hz v4)
theorem rows_held (W : World) (X : Nat) (op d s o m : Int) (hX : X < W.heap.size) (hop : (Lit.int .i64 op).wf = true) (w1 : World) (h : (w1.cell? ⟨X, 0, none⟩ = some (.int .i64 op) ∧ w1.cell? ⟨X, 1, none⟩ = some (.int .i64 d) ∧ w1.cell? ⟨X, 2, none⟩ = some (.int .i64 s) ∧ w1.cell? ⟨X, 3, none⟩ = some (.int .i64 o) ∧ w1.cell? ⟨X, 4, none⟩ = some (.int .i64 m) ∧ Below W.heap.size W w1)) :
    Calls Try.prog 45 #[.int .i64 (op % 8)] w1 fun e w2 => ∃ mb a p c, ∃ A : Obj → Option Addr × Nat × Nat, e = .returned (.map (some mb)) ∧
      (Instr.lookup 63 (.map (some mb)) (.int .i64 op) true).run Try.prog w2 = .ok (.tuple #[.agg #[.slice a p c, .int .u8 ((rowsF (op % 8) op).getD ⟨0, 0, false, 0⟩).dst, .int .u8 ((rowsF (op % 8) op).getD ⟨0, 0, false, 0⟩).src, .bool ((rowsF (op % 8) op).getD ⟨0, 0, false, 0⟩).off, .int .u8 ((rowsF (op % 8) op).getD ⟨0, 0, false, 0⟩).imm], .bool (rowsF (op % 8) op).isSome]) w2 ∧
      (∀ x, (Instr.lookup 63 (.map (some mb)) (.int .i64 op) true).run Try.prog (w2.alloc x) = .ok (.tuple #[.agg #[.slice (A x).1 (A x).2.1 (A x).2.2, .int .u8 ((rowsF (op % 8) op).getD ⟨0, 0, false, 0⟩).dst, .int .u8 ((rowsF (op % 8) op).getD ⟨0, 0, false, 0⟩).src, .bool ((rowsF (op % 8) op).getD ⟨0, 0, false, 0⟩).off, .int .u8 ((rowsF (op % 8) op).getD ⟨0, 0, false, 0⟩).imm], .bool (rowsF (op % 8) op).isSome]) (w2.alloc x)) ∧
      (w2.cell? ⟨X, 0, none⟩ = some (.int .i64 op) ∧ w2.cell? ⟨X, 1, none⟩ = some (.int .i64 d) ∧ w2.cell? ⟨X, 2, none⟩ = some (.int .i64 s) ∧ w2.cell? ⟨X, 3, none⟩ = some (.int .i64 o) ∧ w2.cell? ⟨X, 4, none⟩ = some (.int .i64 m) ∧ Below W.heap.size W w2) ∧ Below w1.heap.size w1 w2 := by
  refine (rowsOf_any (op % 8) w1 (by omega) (by omega)).mono ?_
  rintro e w2 ⟨mb, rfl, hT, hm, hB⟩
  obtain ⟨a, p, c, hrun⟩ := tab_look hT op hop
  obtain ⟨A, hA⟩ := Classical.axiomOfChoice (r := fun (x : Obj) (q : Option Addr × Nat × Nat) => (Instr.lookup 63 (.map (some mb)) (.int .i64 op) true).run Try.prog (w2.alloc x) = .ok (.tuple #[.agg #[.slice q.1 q.2.1 q.2.2, .int .u8 ((rowsF (op % 8) op).getD ⟨0, 0, false, 0⟩).dst, .int .u8 ((rowsF (op % 8) op).getD ⟨0, 0, false, 0⟩).src, .bool ((rowsF (op % 8) op).getD ⟨0, 0, false, 0⟩).off, .int .u8 ((rowsF (op % 8) op).getD ⟨0, 0, false, 0⟩).imm], .bool (rowsF (op % 8) op).isSome]) (w2.alloc x)) (fun x => by
    obtain ⟨a, p, c, h⟩ := tab_look (hT.alloc x) op hop
    exact ⟨(a, p, c), h⟩)
  exact ⟨mb, a, p, c, A, rfl, hrun, hA, chS_up hX h hB, hB⟩
theorem rows_pre (W : World) (X z : Nat) (op d s o m : Int) (hX : X < W.heap.size) (hop : (Lit.int .i64 op).wf = true) (w1 : World) (h : (w1.cell? ⟨X, 0, none⟩ = some (.int .i64 op) ∧ w1.cell? ⟨X, 1, none⟩ = some (.int .i64 d) ∧ w1.cell? ⟨X, 2, none⟩ = some (.int .i64 s) ∧ w1.cell? ⟨X, 3, none⟩ = some (.int .i64 o) ∧ w1.cell? ⟨X, 4, none⟩ = some (.int .i64 m) ∧ Below W.heap.size W w1)) (hz : (w1.cell? ⟨z, 0, none⟩ = some (.slice none 0 0) ∧ w1.cell? ⟨z, 1, none⟩ = some (.int .u8 0) ∧ w1.cell? ⟨z, 2, none⟩ = some (.int .u8 0) ∧ w1.cell? ⟨z, 3, none⟩ = some (.bool false) ∧ w1.cell? ⟨z, 4, none⟩ = some (.int .u8 0) ∧ w1.frozen? ⟨z, 0, none⟩ = false ∧ w1.frozen? ⟨z, 1, none⟩ = false ∧ w1.frozen? ⟨z, 2, none⟩ = false ∧ w1.frozen? ⟨z, 3, none⟩ = false ∧ w1.frozen? ⟨z, 4, none⟩ = false)) (hz1 : z < w1.heap.size) :
    Calls Try.prog 45 #[.int .i64 (op % 8)] w1 fun e w2 => ∃ mb a p c, ∃ A : Obj → Option Addr × Nat × Nat, e = .returned (.map (some mb)) ∧
      (Instr.lookup 63 (.map (some mb)) (.int .i64 op) true).run Try.prog w2 = .ok (.tuple #[.agg #[.slice a p c, .int .u8 ((rowsF (op % 8) op).getD ⟨0, 0, false, 0⟩).dst, .int .u8 ((rowsF (op % 8) op).getD ⟨0, 0, false, 0⟩).src, .bool ((rowsF (op % 8) op).getD ⟨0, 0, false, 0⟩).off, .int .u8 ((rowsF (op % 8) op).getD ⟨0, 0, false, 0⟩).imm], .bool (rowsF (op % 8) op).isSome]) w2 ∧
      (∀ x, (Instr.lookup 63 (.map (some mb)) (.int .i64 op) true).run Try.prog (w2.alloc x) = .ok (.tuple #[.agg #[.slice (A x).1 (A x).2.1 (A x).2.2, .int .u8 ((rowsF (op % 8) op).getD ⟨0, 0, false, 0⟩).dst, .int .u8 ((rowsF (op % 8) op).getD ⟨0, 0, false, 0⟩).src, .bool ((rowsF (op % 8) op).getD ⟨0, 0, false, 0⟩).off, .int .u8 ((rowsF (op % 8) op).getD ⟨0, 0, false, 0⟩).imm], .bool (rowsF (op % 8) op).isSome]) (w2.alloc x)) ∧
      (w2.cell? ⟨X, 0, none⟩ = some (.int .i64 op) ∧ w2.cell? ⟨X, 1, none⟩ = some (.int .i64 d) ∧ w2.cell? ⟨X, 2, none⟩ = some (.int .i64 s) ∧ w2.cell? ⟨X, 3, none⟩ = some (.int .i64 o) ∧ w2.cell? ⟨X, 4, none⟩ = some (.int .i64 m) ∧ Below W.heap.size W w2) ∧ Below w1.heap.size w1 w2 ∧ (w2.cell? ⟨z, 0, none⟩ = some (.slice none 0 0) ∧ w2.cell? ⟨z, 1, none⟩ = some (.int .u8 0) ∧ w2.cell? ⟨z, 2, none⟩ = some (.int .u8 0) ∧ w2.cell? ⟨z, 3, none⟩ = some (.bool false) ∧ w2.cell? ⟨z, 4, none⟩ = some (.int .u8 0) ∧ w2.frozen? ⟨z, 0, none⟩ = false ∧ w2.frozen? ⟨z, 1, none⟩ = false ∧ w2.frozen? ⟨z, 2, none⟩ = false ∧ w2.frozen? ⟨z, 3, none⟩ = false ∧ w2.frozen? ⟨z, 4, none⟩ = false) := by
  refine (rows_held W X op d s o m hX hop w1 h).mono ?_
  rintro e w2 ⟨mb, a, p, c, A, rfl, h1, h2, h3, h4⟩
  obtain ⟨z0, z1, z2, z3, z4, f0, f1, f2, f3, f4⟩ := hz
  have fz : ∀ i, w2.frozen? ⟨z, i, none⟩ = w1.frozen? ⟨z, i, none⟩ := fun i => h4.frozen (p := ⟨z, i, none⟩) hz1
  exact ⟨mb, a, p, c, A, rfl, h1, h2, h3, h4, cell_up z0 h4 hz1, cell_up z1 h4 hz1, cell_up z2 h4 hz1, cell_up z3 h4 hz1, cell_up z4 h4 hz1, (fz 0).trans f0, (fz 1).trans f1, (fz 2).trans f2, (fz 3).trans f3, (fz 4).trans f4⟩
def chkD (op d s o m : Int) : Int :=
  match rowsF (op % 8) op with
  | none => 7
  | some f => if regD f d s m = false then 8 else if zeroD f d s o m = false then 9 else if numD f op s o m = false then 10 else 0
theorem set5_cells (w1 : World) (z : Nat) {u1 u2 u3 u4 : Value} (h1 : w1.cell? ⟨z, 1, none⟩ = some u1) (h2 : w1.cell? ⟨z, 2, none⟩ = some u2) (h3 : w1.cell? ⟨z, 3, none⟩ = some u3) (h4 : w1.cell? ⟨z, 4, none⟩ = some u4) (v0 v1 v2 v3 v4 : Value) :
    (((((w1.setCell ⟨z, 0, none⟩ v0).setCell ⟨z, 1, none⟩ v1).setCell ⟨z, 2, none⟩ v2).setCell ⟨z, 3, none⟩ v3).setCell ⟨z, 4, none⟩ v4).cell? ⟨z, 1, none⟩ = some v1 ∧ (((((w1.setCell ⟨z, 0, none⟩ v0).setCell ⟨z, 1, none⟩ v1).setCell ⟨z, 2, none⟩ v2).setCell ⟨z, 3, none⟩ v3).setCell ⟨z, 4, none⟩ v4).cell? ⟨z, 2, none⟩ = some v2 ∧ (((((w1.setCell ⟨z, 0, none⟩ v0).setCell ⟨z, 1, none⟩ v1).setCell ⟨z, 2, none⟩ v2).setCell ⟨z, 3, none⟩ v3).setCell ⟨z, 4, none⟩ v4).cell? ⟨z, 3, none⟩ = some v3 ∧ (((((w1.setCell ⟨z, 0, none⟩ v0).setCell ⟨z, 1, none⟩ v1).setCell ⟨z, 2, none⟩ v2).setCell ⟨z, 3, none⟩ v3).setCell ⟨z, 4, none⟩ v4).cell? ⟨z, 4, none⟩ = some v4 ∧ z < (((((w1.setCell ⟨z, 0, none⟩ v0).setCell ⟨z, 1, none⟩ v1).setCell ⟨z, 2, none⟩ v2).setCell ⟨z, 3, none⟩ v3).setCell ⟨z, 4, none⟩ v4).heap.size := by
  have hz := World.block_lt_of_cell? w1 _ h1
  refine ⟨?_, ?_, ?_, ?_, by simpa using hz⟩ <;> go_simp
def Ok (F : Fun) : Prop := ∀ k f, F k = some f → 0 ≤ f.imm ∧ f.imm ≤ 5
theorem ok_put {F : Fun} (h : Ok F) (f : FV) (hf : 0 ≤ f.imm ∧ f.imm ≤ 5) (op : Int) : Ok (putOp f F op) := by
  intro k g hg
  unfold putOp at hg
  split at hg
  · cases hg; exact hf
  · exact h k g hg
theorem ok_puts (f : FV) (hf : 0 ≤ f.imm ∧ f.imm ≤ 5) (ops : List Int) : ∀ {F : Fun}, Ok F → Ok (putOps f F ops) := by
  induction ops with
  | nil => intro F h; exact h
  | cons a l ih => intro F h; exact ih (ok_put h f hf a)
theorem ok_rows (rs : List RowD) (hr : ∀ r ∈ rs, 0 ≤ r.f.imm ∧ r.f.imm ≤ 5) : ∀ {F : Fun}, Ok F → Ok (putRows F rs) := by
  induction rs with
  | nil => intro F h; exact h
  | cons a l ih => intro F h; exact ih (fun r m => hr r (by simp [m])) (ok_puts a.f (hr a (by simp)) a.ops h)
theorem ok_no : Ok noF := fun k f h => by cases h
theorem ok_rowsF (c : Int) : Ok (rowsF c) := by
  unfold rowsF opsF cmpF
  repeat' split
  all_goals repeat' (first | exact ok_no | (refine ok_rows _ (by simp) ?_))
theorem chkD_none (op d s o m : Int) (h : rowsF (op % 8) op = none) : chkD op d s o m = 7 := by unfold chkD; rw [h]
theorem chkD_some (op d s o m : Int) (f : FV) (h : rowsF (op % 8) op = some f) : chkD op d s o m = if regD f d s m = false then 8 else if zeroD f d s o m = false then 9 else if numD f op s o m = false then 10 else 0 := by unfold chkD; rw [h]
def CutR (W : World) (X : Nat) (op d s o m : Int) (r : Option FV) (p b : Value) (wx : World) : Prop :=
  ∃ z, p = .pointer (some ⟨z, 0, none⟩) ∧ b = .bool r.isSome ∧ wx.cell? ⟨z, 1, none⟩ = some (.int .u8 (r.getD ⟨0, 0, false, 0⟩).dst) ∧ wx.cell? ⟨z, 2, none⟩ = some (.int .u8 (r.getD ⟨0, 0, false, 0⟩).src) ∧
    wx.cell? ⟨z, 3, none⟩ = some (.bool (r.getD ⟨0, 0, false, 0⟩).off) ∧ wx.cell? ⟨z, 4, none⟩ = some (.int .u8 (r.getD ⟨0, 0, false, 0⟩).imm) ∧ z < wx.heap.size ∧ (wx.cell? ⟨X, 0, none⟩ = some (.int .i64 op) ∧ wx.cell? ⟨X, 1, none⟩ = some (.int .i64 d) ∧ wx.cell? ⟨X, 2, none⟩ = some (.int .i64 s) ∧ wx.cell? ⟨X, 3, none⟩ = some (.int .i64 o) ∧ wx.cell? ⟨X, 4, none⟩ = some (.int .i64 m) ∧ Below W.heap.size W wx)
set_option maxHeartbeats 4000000 in
theorem dcheck_any (op d s o m : Int) (w : World) (hop : (Lit.int .i64 op).wf = true) :
    Calls Try.prog 30 #[insnV op d s o m] w fun e w' => e = .returned (.int .i64 (chkD op d s o m)) ∧ Below w.heap.size w w' := by
  have HOP := hid hop
  clear hop
  unfold insnV
  go_enter Try.func30, Try.ntmps30
  go_wp2_with fail
  have HB0 := hid (below_new w (.cells #[.int .i64 op, .int .i64 d, .int .i64 s, .int .i64 o, .int .i64 m] 35))
  generalize hW : w.alloc (.cells #[.int .i64 op, .int .i64 d, .int .i64 s, .int .i64 o, .int .i64 m] 35) = W at HB0 ⊢
  have hX : w.heap.size < W.heap.size := by rw [← hW]; simp
  have hS0 : (W.cell? ⟨w.heap.size, 0, none⟩ = some (.int .i64 op) ∧ W.cell? ⟨w.heap.size, 1, none⟩ = some (.int .i64 d) ∧ W.cell? ⟨w.heap.size, 2, none⟩ = some (.int .i64 s) ∧ W.cell? ⟨w.heap.size, 3, none⟩ = some (.int .i64 o) ∧ W.cell? ⟨w.heap.size, 4, none⟩ = some (.int .i64 m) ∧ Below W.heap.size W W) := by rw [← hW]; exact ⟨by simp, by simp, by simp, by simp, by simp, Below.refl _ _⟩
  clear hW
  obtain ⟨X, hXe⟩ : ∃ X, w.heap.size = X := ⟨_, rfl⟩
  rw [hXe] at hX hS0 HB0 ⊢
  have HXE := hid hXe
  clear hXe
  go_upto_region 2 with fail
  go_cut [3, 4] (fun p b wx => CutR W X op d s o m (rowsF (op % 8) op) p b wx)
  case first =>
   go_region_held3 (fun w' => w'.cell? ⟨X, 0, none⟩ = some (.int .i64 op) ∧ w'.cell? ⟨X, 1, none⟩ = some (.int .i64 d) ∧ w'.cell? ⟨X, 2, none⟩ = some (.int .i64 s) ∧ w'.cell? ⟨X, 3, none⟩ = some (.int .i64 o) ∧ w'.cell? ⟨X, 4, none⟩ = some (.int .i64 m) ∧ Below W.heap.size W w')
     (first | (with_reducible assumption) | (with_reducible exact chS_drew ‹_›) | (with_reducible exact chS_alloc hX ‹_› _) | (with_reducible exact chS_drew (chS_alloc hX ‹_› _)) | (with_reducible exact chS_set5 hX (Nat.le_refl _) ‹_› _ _ _ _ _))
     (first
       | (go_at_call 42; refine (dclass_any _ _).mono ?_; rintro e w' ⟨rfl, rfl⟩)
       | (go_at_call 45; (with_reducible refine (rows_pre W X W.heap.size op d s o m hX HOP.out _ ‹_› ?hz ?hz1).mono ?_); (case hz => simp); (case hz1 => simp); rintro e w2 ⟨mb, ra, rp, rc, rA, rfl, hrun, hrunA, hS2, hB2, z0, z1, z2, z3, z4, f0, f1, f2, f3, f4⟩)
       | (go_at_call 45; (with_reducible refine (rows_held W X op d s o m hX HOP.out _ ‹_›).mono ?_); rintro e w2 ⟨mb, ra, rp, rc, rA, rfl, hrun, hrunA, hS2, hB2⟩))
   all_goals (go_wp2_with fail; go_meet)
   all_goals first
     | exact ⟨_, rfl, rfl, by simp, by simp, by simp, by simp, by simp, by assumption⟩
     | exact ⟨_, rfl, rfl, (set5_cells _ _ ‹_› ‹_› ‹_› ‹_› _ _ _ _ _).1, (set5_cells _ _ ‹_› ‹_› ‹_› ‹_› _ _ _ _ _).2.1, (set5_cells _ _ ‹_› ‹_› ‹_› ‹_› _ _ _ _ _).2.2.1, (set5_cells _ _ ‹_› ‹_› ‹_› ‹_› _ _ _ _ _).2.2.2.1, (set5_cells _ _ ‹_› ‹_› ‹_› ‹_› _ _ _ _ _).2.2.2.2, by assumption⟩
  case rest =>
    obtain ⟨z, rfl, rfl, c1, c2, c3, c4, hz, x0, x1, x2, x3, x4, hB⟩ := hcut
    cases hF : rowsF (op % 8) op with
    | none =>
      have HE := hid (chkD_none op d s o m hF)
      clear hF c1 c2 c3 c4
      simp only [Option.isSome_none]
      have HB := hid hB
      clear hB
      go_wp2_with fail
      go_ret
      exact ⟨by rw [HE.out]; rfl, by rw [HXE.out]; exact HB0.out.trans (HB.out.mono (by omega))⟩
    | some f =>
      have hf := ok_rowsF _ _ _ hF
      have HE := hid (chkD_some op d s o m f hF)
      rw [hF] at c1 c2 c3 c4
      simp only [Option.getD_some, Option.isSome_some] at c1 c2 c3 c4 ⊢
      have HF := hid hf
      clear hF hf
      have HB := hid hB
      clear hB
      have K1 := hid (fun w => registersFit_any f op d s o m w)
      have K2 := hid (fun w => restIsZero_any f op d s o m w)
      have K3 := hid (fun w => numbersFit_any f op d s o m w HF.out.1 HF.out.2)
      unfold FV.val insnV at K1 K2 K3
      generalize regD f d s m = r1 at K1 HE
      generalize zeroD f d s o m = r2 at K2 HE
      generalize numD f op s o m = r3 at K3 HE
      obtain ⟨fd, fs, fo, fm⟩ := f
      simp only at c1 c2 c3 c4 K1 K2 K3
      have hXw : X < wc.heap.size := World.block_lt_of_cell? wc _ x0
      go_wp2_with fail
      refine (K1.out _).mono ?_
      rintro e w1 ⟨rfl, hb1⟩
      have HB1 := hid hb1
      have y1 := cell_up c1 hb1 hz
      have y2 := cell_up c2 hb1 hz
      have y3 := cell_up c3 hb1 hz
      have y4 := cell_up c4 hb1 hz
      have v0 := cell_up x0 hb1 hXw
      have v1 := cell_up x1 hb1 hXw
      have v2 := cell_up x2 hb1 hXw
      have v3 := cell_up x3 hb1 hXw
      have v4 := cell_up x4 hb1 hXw
      have hs1 := hb1.size
      clear hb1
      cases r1
      · go_wp2_with fail
        go_ret
        exact ⟨by rw [HE.out]; rfl, by rw [HXE.out]; exact HB0.out.trans ((HB.out.trans (HB1.out.mono HB.out.size)).mono (by omega))⟩
      · go_wp2_with fail
        refine (K2.out _).mono ?_
        rintro e w2 ⟨rfl, hb2⟩
        have HB2 := hid ((HB1.out).trans (hb2.mono hs1))
        have hs2 := hb2.size
        clear hb2
        have t1 := cell_up c1 HB2.out hz
        have t2 := cell_up c2 HB2.out hz
        have t3 := cell_up c3 HB2.out hz
        have t4 := cell_up c4 HB2.out hz
        have q0 := cell_up x0 HB2.out hXw
        have q1 := cell_up x1 HB2.out hXw
        have q2 := cell_up x2 HB2.out hXw
        have q3 := cell_up x3 HB2.out hXw
        have q4 := cell_up x4 HB2.out hXw
        cases r2
        · go_wp2_with fail
          go_ret
          exact ⟨by rw [HE.out]; rfl, by rw [HXE.out]; exact HB0.out.trans ((HB.out.trans (HB2.out.mono HB.out.size)).mono (by omega))⟩
        · go_wp2_with fail
          refine (K3.out _).mono ?_
          rintro e w3 ⟨rfl, hb3⟩
          have HB3 := hid ((HB2.out).trans (hb3.mono (by omega)))
          clear hb3
          cases r3
          · go_wp2_with fail
            go_ret
            exact ⟨by rw [HE.out]; rfl, by rw [HXE.out]; exact HB0.out.trans ((HB.out.trans (HB3.out.mono HB.out.size)).mono (by omega))⟩
          · go_wp2_with fail
            go_ret
            exact ⟨by rw [HE.out]; rfl, by rw [HXE.out]; exact HB0.out.trans ((HB.out.trans (HB3.out.mono HB.out.size)).mono (by omega))⟩
end Go.Proofs.Ytpknnmnknaaccaa.Insn
