/-
  Laws on appends of instructions, and of bytes, that came in or are a call's own.
-/
import Derived.Test.YtccjfnkneiggcaaBack
import Derived.Test.YtccjfnkneiggcaaSpoil
import Derived.Laws.AppendOwnNone
namespace Go.Proofs.Ytccjfnkneiggcaa.Insn
open Go.RowKit Go.Proofs.Ytccjfnkneiggcaa.Num Go.Proofs.Ytccjfnkneiggcaa.ListB
theorem nrow_all {w : World} {b off : Nat} {m : List In} (h : NRow w b off m) : ∀ j u, (VN m)[j]? = some u → w.cell? ((⟨b, off, none⟩ : Addr).add j) = some u := fun j u hu => by
  have hj := (List.getElem?_eq_some_iff.1 hu).1
  rw [VN_length] at hj
  have hk : j / 5 < m.length := by omega
  obtain ⟨x, hx⟩ : ∃ x, m[j / 5]? = some x := ⟨_, List.getElem?_eq_getElem hk⟩
  obtain ⟨h0, h1, h2, h3, h4⟩ := h (j / 5) x hx
  have e : (⟨b, off, none⟩ : Addr).add j = ⟨b, off + j, none⟩ := by unfold Addr.add; split <;> simp_all
  have hr : j % 5 = 0 ∨ j % 5 = 1 ∨ j % 5 = 2 ∨ j % 5 = 3 ∨ j % 5 = 4 := by omega
  have key : ∀ r v, j % 5 = r → x.vals[r]? = some v → u = v := fun r v hr hv => by
    have t := VN_get m (j / 5) x r v hx hv
    rw [show j / 5 * 5 + r = j by omega, hu] at t
    exact Option.some.inj t
  rw [e]
  rcases hr with hr | hr | hr | hr | hr
  · rw [key 0 _ hr rfl, show off + j = off + j / 5 * 5 by omega]; exact h0
  · rw [key 1 _ hr rfl, show off + j = off + j / 5 * 5 + 1 by omega]; exact h1
  · rw [key 2 _ hr rfl, show off + j = off + j / 5 * 5 + 2 by omega]; exact h2
  · rw [key 3 _ hr rfl, show off + j = off + j / 5 * 5 + 3 by omega]; exact h3
  · rw [key 4 _ hr rfl, show off + j = off + j / 5 * 5 + 4 by omega]; exact h4
theorem VN_one (l : List In) : ∀ u ∈ VN l, u.oneCell' = true := by
  intro u hu
  unfold VN at hu
  obtain ⟨x, _, hx⟩ := List.mem_flatMap.1 hu
  unfold In.vals at hx
  simp at hx
  rcases hx with rfl | rfl | rfl | rfl | rfl <;> rfl
theorem wpList_appN {ops : Array Oper} {rest : List Oper} {o : Oper} {a : Act} {Q : Exit → Act → World → Prop} (w : World) (hgd : o.guard = none) (s y : Operand) (ho : o.op = .call { callee := .builtin .append, args := #[s, y], argTypes := #[31, 31] })
    (w0 : World) (v : Value) (l : List In) (hs : a.eval s = v) (hown : w.ownsRow w0.heap.size 23 5 v l.length (VN l)) (hbel : Below w0.heap.size w0 w) (a1 : Option Addr) (len1 cap1 : Nat) (m : List In) (hy : a.eval y = .slice a1 len1 cap1) (hm : ArgN w a1 len1 m) (hnil : a1 = none → cap1 = 0) (hb : l.length + len1 ≤ 100000)
    (h : ∀ v' w', w'.ownsRow w0.heap.size 23 5 v' (l ++ m).length (VN (l ++ m)) → Below w0.heap.size w0 w' → w.grownBy w' v.ownBlock → wpList Try.prog ops Q rest (a.put o.dst v') w') : wpList Try.prog ops Q (o :: rest) a w := by
  obtain ⟨i0, hi, hz0, hz1, hz2⟩ := info_parts infoIn
  cases a1 with
  | none =>
    have hl0 : len1 = 0 := by
      rcases Nat.eq_zero_or_pos len1 with h0 | h0
      · exact h0
      · obtain ⟨b, off, e, _⟩ := hm.2 h0; cases e
    have hc0 := hnil rfl
    subst hl0 hc0
    have hm0 : m = [] := List.length_eq_zero_iff.1 hm.1
    subst hm0
    exact wpList_append_own_none hgd s y 31 ho w0.heap.size 23 i0 5 Try.underlying31 hi v _ _ hs hown hy (h v w (by simpa using hown) hbel (World.grownBy.refl _ _))
  | some ad =>
    have hnews : ∀ j u, (VN m)[j]? = some u → w.cell? (ad.add j) = some u := fun j u hu => by
      have hj := (List.getElem?_eq_some_iff.1 hu).1
      rw [VN_length, hm.1] at hj
      obtain ⟨b, off, e, _, hr⟩ := hm.2 (by omega)
      cases e
      exact nrow_all hr j u hu
    refine wpList_append_own w hgd s y 31 ho w0.heap.size 23 i0 (.agg #[.int .i64 0, .int .i64 0, .int .i64 0, .int .i64 0, .int .i64 0]) 5 40 Try.underlying31 hi hz0 hz1 hz2 rfl (by decide) v _ _ hs hown ad len1 cap1 (VN m) hy (by rw [VN_length, hm.1]) hnews (VN_one m) (by unfold maxLen; omega) (by omega) hbel.size ?_
    intro v' w' hown' hgr _
    refine h v' w' ?_ (hbel.grown hgr hbel.size (fun k hk => (hown.lt k hk).1)) hgr
    rw [VN_append, List.length_append, hm.1]; exact hown'
theorem wpList_appB {ops : Array Oper} {rest : List Oper} {o : Oper} {a : Act} {Q : Exit → Act → World → Prop} (w : World) (hgd : o.guard = none) (s y : Operand) (ho : o.op = .call { callee := .builtin .append, args := #[s, y], argTypes := #[33, 33] })
    (w0 : World) (v : Value) (cs : List Int) (hs : a.eval s = v) (hown : w.ownsRow w0.heap.size 5 1 v cs.length (V cs)) (hbel : Below w0.heap.size w0 w) (b2 : Nat) (v2 : Value) (ns : List Int) (hy : a.eval y = v2) (hm : w.ownsRow b2 5 1 v2 ns.length (V ns)) (hb : cs.length + ns.length ≤ 100000)
    (h : ∀ v' w', w'.ownsRow w0.heap.size 5 1 v' (cs ++ ns).length (V (cs ++ ns)) → Below w0.heap.size w0 w' → w.grownBy w' v.ownBlock → wpList Try.prog ops Q rest (a.put o.dst v') w') : wpList Try.prog ops Q (o :: rest) a w := by
  obtain ⟨i0, hi, hz0, hz1, hz2⟩ := info_parts info8
  rcases hm.2 with ⟨rfl, hn0⟩ | ⟨g, c, cur, rfl, _⟩
  · have hns : ns = [] := List.length_eq_zero_iff.1 hn0
    subst hns
    exact wpList_append_own_none hgd s y 33 ho w0.heap.size 5 i0 1 Try.underlying33 hi v _ _ hs hown hy (h v w (by simpa using hown) hbel (World.grownBy.refl _ _))
  · refine wpList_append_own w hgd s y 33 ho w0.heap.size 5 i0 (.int .u8 0) 1 1 Try.underlying33 hi hz0 hz1 hz2 rfl (by decide) v _ _ hs hown ⟨g, 0, none⟩ ns.length c (V ns) hy (by unfold V; simp) (own_cells hm) (V_one ns) (by unfold maxLen; omega) (by omega) hbel.size ?_
    intro v' w' hown' hgr _
    refine h v' w' ?_ (hbel.grown hgr hbel.size (fun k hk => (hown.lt k hk).1)) hgr
    rw [V_append, List.length_append]; exact hown'
end Go.Proofs.Ytccjfnkneiggcaa.Insn
