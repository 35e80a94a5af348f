/-
  From what the claim's form reads to what the walks are told.
-/
import Derived.OpenShut
import Derived.Deep.Slices
import Derived.Test.YtejcjjimhaokfaaDoorDlB
namespace Go.Proofs.YtejcjjimhaokfaaDoor.Dcl
open Go.ChangeShapes Go.WideShapes Go.RowKit Go.Proofs.YtejcjjimhaokfaaDoor.Num Go.Proofs.YtejcjjimhaokfaaDoor.Up Go.Proofs.YtejcjjimhaokfaaDoor.Tn
section
variable {H : Type} {enc : TypeId × Value → H} {w : World} {base : Nat} {spare : Nat → Bool} {held : Bool}
theorem u64_tn {a : Int} (h : (Lit.int .u64 a).wf = true) : Value.int .u64 a = .int .u64 (tn (b64 a)) := by rw [tn_b64 _ (bounds_u64 h).1 (bounds_u64 h).2]
theorem i64_ti {a : Int} (h : (Lit.int .i64 a).wf = true) : Value.int .i64 a = .int .i64 (ti (b64 a)) := by
  have b := bounds_i64 h
  have e : ti (b64 a) = a := by
    rw [← wrapI, IntKind.wrap_i64]
    omega
  rw [e]
theorem one_i64_3 {n : Nat} {cs : List Value} {y : Option (DataW H × List MemPlace)} {c : Value} (hc : cs = [c]) (hy : ∃ z, y = some z) (h : DataW.trod enc Tryd.prog w base spare held n 3 cs = y) : ∃ a : BitVec 64, c = .int .i64 (ti a) := by
  obtain ⟨z, rfl⟩ := hy
  obtain ⟨a, ha, _, hw⟩ := DataW.trod_int Tryd.underlying3 h
  rw [hc] at ha
  injection ha with ha
  exact ⟨b64 a, ha.trans (i64_ti hw)⟩
set_option maxRecDepth 100000 in
theorem cells_30 {fuel : Nat} {cs : List Value} {y : DataW H × List MemPlace} (h : DataW.trod enc Tryd.prog w base spare held fuel 30 cs = some y) : ∃ x : Dc, cs = [.int .i64 (ti (x.kind)), .int .i64 (ti (x.entries)), .int .i64 (ti (x.words)), .int .i64 (ti (x.buckets)), .int .i64 (ti (x.inner))] := by
  obtain ⟨xs, n, _, _, hl, hx, hg⟩ := DataW.trod_struct Tryd.underlying30 h
  rw [show Tryd.prog.cellsOf 30 = 5 by kernel_rfl] at hl
  have hxl : xs.length = 5 := hx
  match cs, hl with
  | [c0, c1, c2, c3, c4], _ =>
    have some_at : ∀ i, i < 5 → ∃ z, xs[i]? = some z := fun i hi => ⟨_, List.getElem?_eq_getElem (by omega)⟩
    have g0 : DataW.trod enc Tryd.prog w base spare held n 3 (([c0, c1, c2, c3, c4].drop 0).take (Tryd.prog.cellsOf 3)) = xs[0]? := hg 0 _ rfl
    rw [show Tryd.prog.cellsOf 3 = 1 by kernel_rfl] at g0
    have g1 : DataW.trod enc Tryd.prog w base spare held n 3 (([c0, c1, c2, c3, c4].drop 1).take (Tryd.prog.cellsOf 3)) = xs[1]? := hg 1 _ rfl
    rw [show Tryd.prog.cellsOf 3 = 1 by kernel_rfl] at g1
    have g2 : DataW.trod enc Tryd.prog w base spare held n 3 (([c0, c1, c2, c3, c4].drop 2).take (Tryd.prog.cellsOf 3)) = xs[2]? := hg 2 _ rfl
    rw [show Tryd.prog.cellsOf 3 = 1 by kernel_rfl] at g2
    have g3 : DataW.trod enc Tryd.prog w base spare held n 3 (([c0, c1, c2, c3, c4].drop 3).take (Tryd.prog.cellsOf 3)) = xs[3]? := hg 3 _ rfl
    rw [show Tryd.prog.cellsOf 3 = 1 by kernel_rfl] at g3
    have g4 : DataW.trod enc Tryd.prog w base spare held n 3 (([c0, c1, c2, c3, c4].drop 4).take (Tryd.prog.cellsOf 3)) = xs[4]? := hg 4 _ rfl
    rw [show Tryd.prog.cellsOf 3 = 1 by kernel_rfl] at g4
    obtain ⟨a0, rfl⟩ := one_i64_3 rfl (some_at 0 (by omega)) g0
    obtain ⟨a1, rfl⟩ := one_i64_3 rfl (some_at 1 (by omega)) g1
    obtain ⟨a2, rfl⟩ := one_i64_3 rfl (some_at 2 (by omega)) g2
    obtain ⟨a3, rfl⟩ := one_i64_3 rfl (some_at 3 (by omega)) g3
    obtain ⟨a4, rfl⟩ := one_i64_3 rfl (some_at 4 (by omega)) g4
    exact ⟨⟨a0, a1, a2, a3, a4⟩, rfl⟩
set_option maxRecDepth 100000 in
theorem open_30 {r : Reach} {b0 : Nat} {v : Value} {d : DataW H} {p : List MemPlace} (hv : Value.okWide Tryd.prog w r b0 30 v) (h : DataW.Trod enc Tryd.prog w base spare held 30 v d p) : ∃ x : Dc, v = .agg #[.int .i64 (ti (x.kind)), .int .i64 (ti (x.entries)), .int .i64 (ti (x.words)), .int .i64 (ti (x.buckets)), .int .i64 (ti (x.inner))] := by
  obtain ⟨cs, rfl, _⟩ := okWide_struct Tryd.underlying30 hv
  obtain ⟨fuel, hf⟩ := h
  obtain ⟨x, hx⟩ := cells_30 hf
  refine ⟨x, ?_⟩
  have e : cs.toList = [.int .i64 (ti (x.kind)), .int .i64 (ti (x.entries)), .int .i64 (ti (x.words)), .int .i64 (ti (x.buckets)), .int .i64 (ti (x.inner))] := by simpa [Value.cells] using hx
  congr 1
  exact Array.toList_inj.1 (by rw [e])
end
theorem exists_listD (n : Nat) (Q : Nat → Dc → Prop) (h : ∀ i, i < n → ∃ x, Q i x) : ∃ l : List Dc, l.length = n ∧ ∀ (i : Nat) (x : Dc), l[i]? = some x → Q i x := by
  induction n with
  | zero => exact ⟨[], rfl, fun i x hx => by simp at hx⟩
  | succ n ih =>
    obtain ⟨l, hl, hq⟩ := ih fun i hi => h i (by omega)
    obtain ⟨x, hx⟩ := h n (by omega)
    refine ⟨l ++ [x], by simp [hl], fun i y hy => ?_⟩
    by_cases hi : i < n
    · rw [List.getElem?_append_left (by omega)] at hy; exact hq i y hy
    · rw [List.getElem?_append_right (by omega)] at hy
      by_cases hin : i = n
      · subst hin; rw [hl, Nat.sub_self] at hy; simp at hy; subst hy; exact hx
      · rw [List.getElem?_eq_none (by simp; omega)] at hy; cases hy
theorem open_decls {H : Type} {enc : TypeId × Value → H} {w : World} {base : Nat} {spare : Nat → Bool} {held : Bool} {a : Option Addr} {len cap fuel : Nat} {y : DataW H × List MemPlace} (h : DataW.trod enc Tryd.prog w base spare held fuel 22 [.slice a len cap] = some y) : ∃ L : List Dc, ArgN w a len (L.map Dc.di) ∧ len ≤ cap ∧ cap ≤ 9223372036854775807 := by
  rcases Go.Deep.open_slice Tryd.underlying22 h with ⟨hcs, _⟩ | ⟨ad, len', cap', m, n, D, Pl, hcs, _, hl, hm, hmm, _, hi⟩
  · simp at hcs
    obtain ⟨rfl, rfl, rfl⟩ := hcs
    exact ⟨[], ⟨rfl, fun h0 => absurd h0 (by omega)⟩, by omega, by omega⟩
  · simp at hcs
    obtain ⟨rfl, rfl, rfl⟩ := hcs
    have hmlen : len ≤ m := by rw [hmm]; split <;> omega
    rw [show Tryd.prog.cellsOf 30 = 5 by kernel_rfl] at hi
    obtain ⟨l, hll, hq⟩ := exists_listD len (fun i x => ∀ j u, x.di.vals[j]? = some u → w.cell? ((ad.add (i * 5)).add j) = some u) (fun i hil => by
      obtain ⟨cs', hc, ht⟩ := hi i (by omega)
      obtain ⟨x, rfl⟩ := cells_30 ht
      obtain ⟨_, hcl, hat⟩ := World.cells?_some hc
      exact ⟨x, fun j u hu => by
        have hj : j < x.di.vals.length := (List.getElem?_eq_some_iff.1 hu).1
        have h5 : x.di.vals.length = 5 := rfl
        exact (hat j (by omega)).trans hu⟩)
    refine ⟨l, ⟨by rw [List.length_map]; exact hll, fun h0 => ?_⟩, hl, by unfold maxLen at hm; omega⟩
    obtain ⟨b, off, spot⟩ := ad
    obtain ⟨x0, hx0⟩ : ∃ x, l[0]? = some x := ⟨_, List.getElem?_eq_getElem (by omega)⟩
    have c00 := hq 0 x0 hx0 0 _ rfl
    have hspot : spot = none := by simpa [Addr.add] using World.cell?_spot c00
    subst hspot
    have addp : ∀ i j, ((⟨b, off, none⟩ : Addr).add i).add j = ⟨b, off + i + j, none⟩ := fun i j => by
      unfold Addr.add; split <;> split <;> simp_all
    have hbw : b < w.heap.size := by
      rw [addp] at c00
      exact World.block_lt_of_cell? w _ c00
    refine ⟨b, off, rfl, hbw, fun k z hz => ?_⟩
    rw [List.getElem?_map] at hz
    cases hx : l[k]? with
    | none => rw [hx] at hz; cases hz
    | some x =>
      rw [hx] at hz
      injection hz with hz
      subst hz
      have q := hq k x hx
      have c := fun j u hu => (congrArg w.cell? (addp (k * 5) j)).symm.trans (q j u hu)
      exact ⟨c 0 _ rfl, c 1 _ rfl, c 2 _ rfl, c 3 _ rfl, c 4 _ rfl⟩
end Go.Proofs.YtejcjjimhaokfaaDoor.Dcl
