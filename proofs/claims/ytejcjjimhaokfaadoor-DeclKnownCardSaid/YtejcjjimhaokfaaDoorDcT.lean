/-
  The table of kinds: what its cells hold; the row's condition gives it. What a kind's maps are like, as a plain function.
-/
import Derived.Test.YtejcjjimhaokfaaDoorOps
import Derived.Test.YtejcjjimhaokfaaDoorRows
import Derived.ProofKit
import Derived.LaidMore
import Derived.OpenShut
import Derived.Stop.Joined
namespace Go.Proofs.YtejcjjimhaokfaaDoor.Tn
open Go.ChangeShapes Go.WideShapes Go.ChangeAt Go.WideElems Go.RowKit Go.Proofs.YtejcjjimhaokfaaDoor.Num Go.Proofs.YtejcjjimhaokfaaDoor.Up
/-- What sets the maps of a kind apart. -/
structure Fe where
  ops : BitVec 64
  words : Bool
  buckets : Bool
  spread : Bool
  inner : Bool
def feL : List Fe := [⟨0#64, false, false, false, false⟩, ⟨22#64, false, false, false, false⟩, ⟨22#64, false, false, false, false⟩, ⟨22#64, true, false, false, false⟩, ⟨62#64, false, true, true, false⟩, ⟨62#64, false, false, false, false⟩, ⟨448#64, true, false, false, false⟩, ⟨448#64, true, false, false, false⟩, ⟨320#64, false, true, false, false⟩, ⟨30#64, false, false, false, true⟩, ⟨30#64, false, true, true, true⟩]
def Fe.cells (f : Fe) : List Value := [.int .u64 (tn f.ops), .bool f.words, .bool f.buckets, .bool f.spread, .bool f.inner]
def tabC : List Value := feL.flatMap Fe.cells
def Tab (w : World) : Prop := ∀ k, k < 55 → w.cell? ⟨0, k, none⟩ = tabC[k]?
theorem Tab.pos {w : World} (h : Tab w) : 0 < w.heap.size := World.block_lt_of_cell? w _ ((h 0 (by decide)).trans (show tabC[0]? = some (.int .u64 (tn 0#64)) from rfl))
theorem Tab.up {w x : World} (h : Tab w) (hb : Below w.heap.size w x) : Tab x := fun k hk => (hb.cell (p := ⟨0, k, none⟩) h.pos).trans (h k hk)
theorem gTab : Tryd.prog.globalNamed "crossbar/decl.kinds" = some 0 := by kernel_rfl
theorem tTab : (Tryd.prog.globals[0]?).map (·.type) = some 50 := by kernel_rfl
def tabL : List (String × DataW Unit) := [("crossbar/decl.kinds", Rows.laid_crossbar_decl_kinds)]
theorem door_met (os : Os) (args : Array Value) : laidMetH Tryd.prog tabL ((World.doorLaid Tryd.prog 400 os).forCall (fun _ _ => 0) ⟨#[], args, []⟩).memory :=
  laidMetH_of_parts3 (fuel := 8) (laidMet_of_run' 8 (by kernel_rfl) (by kernel_rfl)) (by kernel_rfl) (by kernel_rfl)
def Fe.dat (f : Fe) : DataW Unit := .agg [.lit (.int .u64 (tn f.ops)), .lit (.bool f.words), .lit (.bool f.buckets), .lit (.bool f.spread), .lit (.bool f.inner)]
theorem laid_is : (Rows.laid_crossbar_decl_kinds : DataW Unit) = .agg (feL.map Fe.dat) := rfl
theorem one_bool {enc : TypeId × Value → Unit} {w : World} {base : Nat} {spare : Nat → Bool} {held : Bool} {n : Nat} {c : Value} {y : Option (DataW Unit × List MemPlace)} {b : Bool} (hy : ∃ z, y = some z ∧ z.1 = .lit (.bool b)) (h : DataW.trod enc Tryd.prog w base spare held n 4 [c] = y) : c = .bool b := by
  obtain ⟨z, rfl, hz⟩ := hy
  obtain ⟨a, ha, hb⟩ := DataW.trod_bool Tryd.underlying4 h
  rw [hb] at hz
  simp only [DataW.lit.injEq, Lit.bool.injEq] at hz
  subst hz
  simpa using ha
theorem one_uint {enc : TypeId × Value → Unit} {w : World} {base : Nat} {spare : Nat → Bool} {held : Bool} {n : Nat} {c : Value} {y : Option (DataW Unit × List MemPlace)} {b : Int} (hy : ∃ z, y = some z ∧ z.1 = .lit (.int .u64 b)) (h : DataW.trod enc Tryd.prog w base spare held n 40 [c] = y) : c = .int .u64 b := by
  obtain ⟨z, rfl, hz⟩ := hy
  obtain ⟨a, ha, hb, _⟩ := DataW.trod_int Tryd.underlying40 h
  rw [hb] at hz
  simp only [DataW.lit.injEq, Lit.int.injEq, true_and] at hz
  subst hz
  simpa using ha
theorem fe_cells {enc : TypeId × Value → Unit} {w : World} {base : Nat} {spare : Nat → Bool} {held : Bool} {fuel : Nat} {cs : List Value} {y : DataW Unit × List MemPlace} {f : Fe} (h : DataW.trod enc Tryd.prog w base spare held fuel 45 cs = some y) (hf : y.1 = f.dat) : cs = f.cells := by
  obtain ⟨xs, n, _, hy, hl, hx, hg⟩ := DataW.trod_struct Tryd.underlying45 h
  rw [show Tryd.prog.cellsOf 45 = 5 by kernel_rfl] at hl
  rw [hy] at hf
  unfold Fe.dat at hf
  injection hf with hf
  have hx5 : xs.length = 5 := hx
  match cs, hl, xs, hx5 with
  | [c0, c1, c2, c3, c4], _, [x0, x1, x2, x3, x4], _ =>
    simp only [List.map_cons, List.map_nil, List.cons.injEq, and_true] at hf
    obtain ⟨e0, e1, e2, e3, e4⟩ := hf
    have k0 : Tryd.prog.cellsOf 40 = 1 := by kernel_rfl
    have k1 : Tryd.prog.cellsOf 4 = 1 := by kernel_rfl
    have g0 : DataW.trod enc Tryd.prog w base spare held n 40 (([c0, c1, c2, c3, c4].drop 0).take (Tryd.prog.cellsOf 40)) = some x0 := hg 0 _ rfl
    have g1 : DataW.trod enc Tryd.prog w base spare held n 4 (([c0, c1, c2, c3, c4].drop 1).take (Tryd.prog.cellsOf 4)) = some x1 := hg 1 _ rfl
    have g2 : DataW.trod enc Tryd.prog w base spare held n 4 (([c0, c1, c2, c3, c4].drop 2).take (Tryd.prog.cellsOf 4)) = some x2 := hg 2 _ rfl
    have g3 : DataW.trod enc Tryd.prog w base spare held n 4 (([c0, c1, c2, c3, c4].drop 3).take (Tryd.prog.cellsOf 4)) = some x3 := hg 3 _ rfl
    have g4 : DataW.trod enc Tryd.prog w base spare held n 4 (([c0, c1, c2, c3, c4].drop 4).take (Tryd.prog.cellsOf 4)) = some x4 := hg 4 _ rfl
    rw [k0] at g0
    rw [k1] at g1 g2 g3 g4
    have r0 := one_uint ⟨_, rfl, e0⟩ g0
    have r1 := one_bool ⟨_, rfl, e1⟩ g1
    have r2 := one_bool ⟨_, rfl, e2⟩ g2
    have r3 := one_bool ⟨_, rfl, e3⟩ g3
    have r4 := one_bool ⟨_, rfl, e4⟩ g4
    subst r0 r1 r2 r3 r4
    rfl
theorem flat_get (l : List Fe) (q j : Nat) (f : Fe) (hq : l[q]? = some f) (hj : j < 5) : (l.flatMap Fe.cells)[q * 5 + j]? = f.cells[j]? := by
  induction l generalizing q with
  | nil => simp at hq
  | cons y l ih =>
    rw [List.flatMap_cons]
    cases q with
    | zero =>
      simp at hq
      subst hq
      rw [List.getElem?_append_left (by simp [Fe.cells]; omega), Nat.zero_mul, Nat.zero_add]
    | succ q =>
      rw [List.getElem?_append_right (by simp [Fe.cells]; omega), show (q + 1) * 5 + j - (Fe.cells y).length = q * 5 + j by simp [Fe.cells]; omega]
      exact ih q (by simpa using hq)
theorem of_laid {W : World} (h : laidMetH Tryd.prog tabL W) : Tab W := by
  rw [MakeChecks.laidMetH_plain _ _ _ (by kernel_rfl)] at h
  obtain ⟨ps, ⟨g0, t0, cs0, f0, p0, q0, hg0, ht0, hv0, hd0, _, _⟩, _, _⟩ := h
  obtain rfl := Option.some.inj (gTab.symm.trans hg0)
  obtain rfl := Option.some.inj (tTab.symm.trans ht0)
  obtain ⟨xs, m1, hcs, hx1, hlen, hn3, hel⟩ := DataW.trod_array Tryd.underlying50 hd0
  have c5 : Tryd.prog.cellsOf 45 = 5 := by kernel_rfl
  simp only [Prod.mk.injEq] at hx1
  obtain ⟨hx1, _⟩ := hx1
  rw [laid_is] at hx1
  injection hx1 with hx1
  intro k hk
  have hq : k / 5 < 11 := by omega
  have he := hel (k / 5) hq
  obtain ⟨x, hx⟩ : ∃ x, xs[k / 5]? = some x := ⟨_, List.getElem?_eq_getElem (by omega)⟩
  obtain ⟨f, hf⟩ : ∃ f, feL[k / 5]? = some f := ⟨_, List.getElem?_eq_getElem hq⟩
  have h3 : (feL.map Fe.dat)[k / 5]? = (xs.map (fun x => x.fst))[k / 5]? := by rw [hx1]
  rw [List.getElem?_map, List.getElem?_map, hx, hf] at h3
  simp only [Option.map_some, Option.some.injEq] at h3
  rw [c5, hx] at he
  have hc := fe_cells he h3.symm
  have hv := World.var?_cell hg0 hv0 k
  have ht : tabC[k]? = f.cells[k % 5]? := by
    have := flat_get feL (k / 5) (k % 5) f hf (by omega)
    rw [show k / 5 * 5 + k % 5 = k by omega] at this
    exact this
  rw [hv, ht, ← hc, List.getElem?_take, if_pos (by omega), List.getElem?_drop, show k / 5 * 5 + k % 5 = k by omega, Array.getElem?_toList]
end Go.Proofs.YtejcjjimhaokfaaDoor.Tn
