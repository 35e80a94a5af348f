/-
  From instructions, and slices of them, as the claim's form reads them to what the walks are told of them.
-/
import Derived.Test.YtpknnmnknaaccaaPutR
import Derived.OpenShut
import Derived.Deep.Slices
namespace Go.Proofs.Ytpknnmnknaaccaa.Insn
open Go.RowKit Go.Proofs.Ytpknnmnknaaccaa.Num Go.ChangeShapes Go.WideShapes Go.Deep
section
variable {H : Type} {enc : TypeId × Value → H} {w : World} {base : Nat} {spare : Nat → Bool} {held : Bool}
theorem one_int {n : Nat} {cs : List Value} {y : Option (DataW H × List MemPlace)} {c : Value} (hc : cs = [c]) (hy : ∃ z, y = some z) (h : DataW.trod enc Try.prog w base spare held n 3 cs = y) : ∃ a, c = .int .i64 a ∧ (Lit.int .i64 a).wf = true := by
  obtain ⟨z, rfl⟩ := hy
  obtain ⟨a, ha, _, hw⟩ := DataW.trod_int Try.underlying3 h
  rw [hc] at ha
  injection ha with ha
  exact ⟨a, ha, hw⟩
theorem insn_cells {fuel : Nat} {cs : List Value} {y : DataW H × List MemPlace} (h : DataW.trod enc Try.prog w base spare held fuel 35 cs = some y) : ∃ x : In, cs = x.vals ∧ InWf x := by
  obtain ⟨xs, n, _, _, hl, hx, hg⟩ := DataW.trod_struct Try.underlying35 h
  rw [show Try.prog.cellsOf 35 = 5 by kernel_rfl] at hl
  have hx5 : xs.length = 5 := hx
  match cs, hl with
  | [c0, c1, c2, c3, c4], _ =>
    have some_at : ∀ i, i < 5 → ∃ z, xs[i]? = some z := fun i hi => ⟨_, List.getElem?_eq_getElem (by omega)⟩
    have k1 : Try.prog.cellsOf 3 = 1 := by kernel_rfl
    have g0 : DataW.trod enc Try.prog w base spare held n 3 (([c0, c1, c2, c3, c4].drop 0).take (Try.prog.cellsOf 3)) = xs[0]? := hg 0 _ rfl
    have g1 : DataW.trod enc Try.prog w base spare held n 3 (([c0, c1, c2, c3, c4].drop 1).take (Try.prog.cellsOf 3)) = xs[1]? := hg 1 _ rfl
    have g2 : DataW.trod enc Try.prog w base spare held n 3 (([c0, c1, c2, c3, c4].drop 2).take (Try.prog.cellsOf 3)) = xs[2]? := hg 2 _ rfl
    have g3 : DataW.trod enc Try.prog w base spare held n 3 (([c0, c1, c2, c3, c4].drop 3).take (Try.prog.cellsOf 3)) = xs[3]? := hg 3 _ rfl
    have g4 : DataW.trod enc Try.prog w base spare held n 3 (([c0, c1, c2, c3, c4].drop 4).take (Try.prog.cellsOf 3)) = xs[4]? := hg 4 _ rfl
    rw [k1] at g0 g1 g2 g3 g4
    obtain ⟨a0, rfl, w0⟩ := one_int rfl (some_at 0 (by omega)) g0
    obtain ⟨a1, rfl, w1⟩ := one_int rfl (some_at 1 (by omega)) g1
    obtain ⟨a2, rfl, w2⟩ := one_int rfl (some_at 2 (by omega)) g2
    obtain ⟨a3, rfl, w3⟩ := one_int rfl (some_at 3 (by omega)) g3
    obtain ⟨a4, rfl, w4⟩ := one_int rfl (some_at 4 (by omega)) g4
    exact ⟨⟨a0, a1, a2, a3, a4⟩, rfl, ⟨w0, w1, w2, w3, w4⟩⟩
theorem exists_list (n : Nat) (Q : Nat → In → Prop) (h : ∀ i, i < n → ∃ x, Q i x) : ∃ l : List In, l.length = n ∧ ∀ (i : Nat) (x : In), l[i]? = some x → Q i x := by
  induction n with
  | zero => exact ⟨[], rfl, fun i x hx => by simp at hx⟩
  | succ n ih =>
    obtain ⟨l, hl, hq⟩ := ih fun i hi => h i (by omega)
    obtain ⟨x, hx⟩ := h n (by omega)
    refine ⟨l ++ [x], by simp [hl], fun i y hy => ?_⟩
    by_cases hi : i < n
    · rw [List.getElem?_append_left (by omega)] at hy; exact hq i y hy
    · rw [List.getElem?_append_right (by omega)] at hy
      by_cases hin : i = n
      · subst hin; rw [hl, Nat.sub_self] at hy; simp at hy; subst hy; exact hx
      · rw [List.getElem?_eq_none (by simp; omega)] at hy; cases hy
theorem open_insn {r : Reach} {b0 : Nat} {v : Value} {d : DataW H} {p : List MemPlace} (hv : Value.okWide Try.prog w r b0 35 v) (h : DataW.Trod enc Try.prog w base spare held 35 v d p) : ∃ x : In, v = insnV x.op x.d x.s x.o x.m ∧ InWf x := by
  obtain ⟨cs, rfl, _⟩ := okWide_struct Try.underlying35 hv
  obtain ⟨fuel, hf⟩ := h
  obtain ⟨x, hx, hw⟩ := insn_cells hf
  refine ⟨x, ?_, hw⟩
  have e : cs.toList = x.vals := by simpa [Value.cells] using hx
  unfold insnV
  congr 1
  exact Array.toList_inj.1 (by rw [e]; rfl)
theorem open_insns {a : Option Addr} {len cap fuel : Nat} {y : DataW H × List MemPlace} (h : DataW.trod enc Try.prog w base spare held fuel 22 [.slice a len cap] = some y) : ∃ l, ArgN w a len l ∧ WfL l ∧ len ≤ cap ∧ cap ≤ 9223372036854775807 := by
  rcases open_slice Try.underlying22 h with ⟨hcs, _⟩ | ⟨ad, len', cap', m, n, D, Pl, hcs, _, hl, hm, hmm, _, hi⟩
  · simp at hcs
    obtain ⟨rfl, rfl, rfl⟩ := hcs
    exact ⟨[], ⟨rfl, fun h0 => absurd h0 (by omega)⟩, fun k x hx => by simp at hx, by omega, by omega⟩
  · simp at hcs
    obtain ⟨rfl, rfl, rfl⟩ := hcs
    have hmlen : len ≤ m := by rw [hmm]; split <;> omega
    rw [show Try.prog.cellsOf 35 = 5 by kernel_rfl] at hi
    obtain ⟨l, hll, hq⟩ := exists_list len (fun i x => InWf x ∧ ∀ j u, x.vals[j]? = some u → w.cell? ((ad.add (i * 5)).add j) = some u) (fun i hil => by
      obtain ⟨cs', hc, ht⟩ := hi i (by omega)
      obtain ⟨x, rfl, hw⟩ := insn_cells ht
      obtain ⟨_, hcl, hat⟩ := World.cells?_some hc
      exact ⟨x, hw, fun j u hu => (hat j (by have := (List.getElem?_eq_some_iff.1 hu).1; rw [hcl] at this; exact this)).trans hu⟩)
    refine ⟨l, ⟨hll, fun h0 => ?_⟩, fun k x hx => (hq k x hx).1, hl, by unfold maxLen at hm; omega⟩
    obtain ⟨b, off, spot⟩ := ad
    obtain ⟨x0, hx0⟩ : ∃ x, l[0]? = some x := ⟨_, List.getElem?_eq_getElem (by omega)⟩
    have c00 := (hq 0 x0 hx0).2 0 _ rfl
    have hspot : spot = none := by simpa [Addr.add] using World.cell?_spot c00
    subst hspot
    have addp : ∀ i j, ((⟨b, off, none⟩ : Addr).add i).add j = ⟨b, off + i + j, none⟩ := fun i j => by
      unfold Addr.add; split <;> split <;> simp_all
    have hbw : b < w.heap.size := by
      rw [addp] at c00
      exact World.block_lt_of_cell? w _ c00
    refine ⟨b, off, rfl, hbw, fun k x hx => ?_⟩
    have q := (hq k x hx).2
    have c := fun j u hu => (congrArg w.cell? (addp (k * 5) j)).symm.trans (q j u hu)
    exact ⟨c 0 _ rfl, c 1 _ rfl, c 2 _ rfl, c 3 _ rfl, c 4 _ rfl⟩
end
end Go.Proofs.Ytpknnmnknaaccaa.Insn
