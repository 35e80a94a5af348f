/-
  What a function knows of the blocks that are its own, as a list: for walks that are written by program (tools/sym.py).
-/
import Derived.Test.YtejcjjimhaokfaaDoorUp
namespace Go.Proofs.YtejcjjimhaokfaaDoor.Up
open Go.RowKit

/-- A block of one's own: its number, its cells (those that are not known: none), its elements' type. -/
structure Blk where
  k : Nat
  cs : List (Option Value)
  t : TypeId
def Blk.ok (b : Blk) (x : World) : Prop := ∃ cs : Array Value, x.heap[b.k]? = some (.cells cs b.t (0, 0)) ∧ cs.size = b.cs.length ∧ ∀ (i : Nat) (v : Value), b.cs[i]? = some (some v) → cs[i]? = some v
/-- Below w0's end nothing has turned; these blocks, all behind it, hold that. -/
structure St (w0 : World) (l : List Blk) (x : World) : Prop where
  below : Below w0.heap.size w0 x
  own : ∀ b ∈ l, w0.heap.size ≤ b.k ∧ b.ok x
  apart : l.Pairwise fun a b => a.k ≠ b.k

theorem Blk.ok.lt {b : Blk} {x : World} (h : b.ok x) : b.k < x.heap.size := by
  obtain ⟨cs, h, _⟩ := h
  exact (Array.getElem?_eq_some_iff.1 h).1
theorem st_nil (w : World) : St w [] w := ⟨Below.refl _ _, by simp, .nil⟩
theorem st_ups (w0 : World) (l : List Blk) : Ups (St w0 l) := fun w w' h hb =>
  ⟨h.below.trans (hb.mono h.below.size), fun b hm => ⟨(h.own b hm).1, by
    obtain ⟨cs, h1, h2, h3⟩ := (h.own b hm).2
    exact ⟨cs, ups_block _ _ _ _ h1 hb, h2, h3⟩⟩, h.apart⟩
theorem St.up {w0 : World} {l : List Blk} {w w' : World} (h : St w0 l w) (hb : Below w.heap.size w w') : St w0 l w' := st_ups w0 l w w' h hb
theorem St.drew {w0 : World} {l : List Blk} {w : World} (h : St w0 l w) : St w0 l w.drew := h.up (Below.refl _ _).drew
theorem St.alloc {w0 : World} {l : List Blk} {x : World} (h : St w0 l x) {k : Nat} (hk : x.heap.size = k) (cs : List Value) (t : TypeId) : St w0 (l ++ [⟨k, cs.map some, t⟩]) (x.alloc (.cells cs.toArray t (0, 0))) := by
  subst hk
  have g := h.up ((Below.refl _ _).alloc (Nat.le_refl _) (.cells cs.toArray t (0, 0)))
  refine ⟨g.below, ?_, ?_⟩
  · intro b hb
    rw [List.mem_append] at hb
    rcases hb with hb | hb
    · exact g.own b hb
    · simp only [List.mem_singleton] at hb
      subst hb
      refine ⟨h.below.size, cs.toArray, heap_new _ _, by simp, ?_⟩
      intro i v hv
      simp only [List.getElem?_map, Option.map_eq_some_iff, Option.some.injEq, exists_eq_right] at hv
      simpa using hv
  · rw [List.pairwise_append]
    refine ⟨h.apart, by simp, ?_⟩
    intro a ha b hb
    simp only [List.mem_singleton] at hb
    subst hb
    have := (h.own a ha).2.lt
    simp only
    omega
theorem St.load {w0 : World} {l : List Blk} {x : World} (h : St w0 l x) (j i : Nat) {b : Blk} {v : Value} (hj : l[j]? = some b) (hi : b.cs[i]? = some (some v)) : x.cell? ⟨b.k, i, none⟩ = some v := by
  obtain ⟨cs, h1, _, h3⟩ := (h.own b (List.mem_of_getElem? hj)).2
  have := h3 i v hi
  simp [World.cell?, h1, this]
theorem St.has {w0 : World} {l : List Blk} {x : World} (h : St w0 l x) (j i : Nat) {b : Blk} (hj : l[j]? = some b) (hi : i < b.cs.length) : ∃ v, x.cell? ⟨b.k, i, none⟩ = some v := by
  obtain ⟨cs, h1, h2, _⟩ := (h.own b (List.mem_of_getElem? hj)).2
  exact ⟨cs[i]'(by omega), by simp [World.cell?, h1, show i < cs.size by omega]⟩
theorem St.soft {w0 : World} {l : List Blk} {x : World} (h : St w0 l x) (j i : Nat) {b : Blk} (hj : l[j]? = some b) : x.frozen? ⟨b.k, i, none⟩ = false := by
  obtain ⟨cs, h1, _⟩ := (h.own b (List.mem_of_getElem? hj)).2
  simp [World.frozen?, h1]
theorem ok_put {b : Blk} {x : World} (h : b.ok x) (i : Nat) (v : Value) : Blk.ok { b with cs := b.cs.set i (some v) } (x.setCell ⟨b.k, i, none⟩ v) := by
  obtain ⟨cs, h1, h2, h3⟩ := h
  refine ⟨cs.setIfInBounds i v, ?_, by simp [h2], ?_⟩
  · simp only [World.setCell, Array.getElem?_modify, if_true, h1, Option.map_some]
    simp
  · intro m u hm
    simp only [List.getElem?_set] at hm
    rw [Array.getElem?_setIfInBounds]
    by_cases e : i = m
    · rw [if_pos e] at hm ⊢
      subst e
      by_cases hl : i < b.cs.length
      · rw [if_pos hl] at hm
        rw [if_pos (by omega)]
        injection hm with hm
      · rw [if_neg hl] at hm
        cases hm
    · rw [if_neg e] at hm ⊢
      exact h3 m u hm
theorem ok_other {b : Blk} {x : World} (h : b.ok x) {k i : Nat} (v : Value) (hk : k ≠ b.k) : b.ok (x.setCell ⟨k, i, none⟩ v) := by
  obtain ⟨cs, h1, h2⟩ := h
  exact ⟨cs, by rw [Below.heap_setCell _ _ _ _ (Ne.symm hk)]; exact h1, h2⟩
/-- A list with one member more: member j turned. -/
theorem pair_set {l : List Blk} (h : l.Pairwise fun a b => a.k ≠ b.k) {j : Nat} {b c : Blk} (hj : l[j]? = some b) (hk : c.k = b.k) : (l.set j c).Pairwise fun a b => a.k ≠ b.k := by
  rw [List.pairwise_iff_getElem] at h ⊢
  intro m n hm hn hmn
  simp only [List.length_set] at hm hn
  have key : ∀ (q : Nat) (hq : q < l.length), ((l.set j c)[q]'(by simpa using hq)).k = (l[q]).k := by
    intro q hq
    rw [List.getElem_set]
    by_cases e : j = q
    · subst e
      rw [if_pos rfl]
      rw [List.getElem?_eq_getElem hq] at hj
      injection hj with hj
      rw [hj, hk]
    · rw [if_neg e]
  rw [key m hm, key n hn]
  exact h m n hm hn hmn
theorem St.put {w0 : World} {l : List Blk} {x : World} (h : St w0 l x) (j i : Nat) (v : Value) {b : Blk} (hj : l[j]? = some b) : St w0 (l.set j { b with cs := b.cs.set i (some v) }) (x.setCell ⟨b.k, i, none⟩ v) := by
  have hm := List.mem_of_getElem? hj
  have hlt : j < l.length := by
    rcases Nat.lt_or_ge j l.length with h' | h'
    · exact h'
    · rw [List.getElem?_eq_none h'] at hj; cases hj
  refine ⟨h.below.setCell (p := ⟨b.k, i, none⟩) (h.own b hm).1 v, ?_, pair_set h.apart hj rfl⟩
  intro c hc
  obtain ⟨q, hq, rfl⟩ := List.getElem_of_mem hc
  simp only [List.length_set] at hq
  rw [List.getElem_set]
  by_cases e : j = q
  · subst e
    rw [if_pos rfl]
    exact ⟨(h.own b hm).1, ok_put (h.own b hm).2 i v⟩
  · rw [if_neg e]
    have hmq : l[q] ∈ l := List.getElem_mem _
    refine ⟨(h.own _ hmq).1, ok_other (h.own _ hmq).2 v ?_⟩
    have hb : l[j] = b := by rw [List.getElem?_eq_getElem hlt] at hj; injection hj
    rw [← hb]
    have hp := h.apart
    rw [List.pairwise_iff_getElem] at hp
    rcases Nat.lt_or_gt_of_ne e with h' | h'
    · exact hp j q hlt hq h'
    · exact Ne.symm (hp q j hq hlt h')
/-- Less is known: cells that are forgotten. -/
def lessC : List (Option Value) → List (Option Value) → Prop
  | [], [] => True
  | a :: l, b :: m => (b = none ∨ b = a) ∧ lessC l m
  | _, _ => False
def less : List Blk → List Blk → Prop
  | [], [] => True
  | a :: l, b :: m => (a.k = b.k ∧ a.t = b.t ∧ lessC a.cs b.cs) ∧ less l m
  | _, _ => False
theorem lessC_spec : ∀ {a b : List (Option Value)}, lessC a b → a.length = b.length ∧ ∀ (i : Nat) (v : Value), b[i]? = some (some v) → a[i]? = some (some v)
  | [], [], _ => ⟨rfl, fun _ _ h => h⟩
  | a :: l, b :: m, h => by
    obtain ⟨h1, h2⟩ := h
    obtain ⟨h3, h4⟩ := lessC_spec h2
    refine ⟨by simp [h3], fun i v hv => ?_⟩
    cases i with
    | zero =>
      rcases h1 with h1 | h1
      · subst h1; simp at hv
      · subst h1; exact hv
    | succ i => simpa using h4 i v (by simpa using hv)
  | [], _ :: _, h => h.elim
  | _ :: _, [], h => h.elim
theorem less_cons {a b : Blk} {l m : List Blk} (hk : a.k = b.k) (ht : a.t = b.t) (hc : lessC a.cs b.cs) (hl : less l m) : less (a :: l) (b :: m) := ⟨⟨hk, ht, hc⟩, hl⟩
theorem lessC_no {a : Option Value} {l m : List (Option Value)} (h : lessC l m) : lessC (a :: l) (none :: m) := ⟨.inl rfl, h⟩
theorem lessC_eq {a : Option Value} {l m : List (Option Value)} (h : lessC l m) : lessC (a :: l) (a :: m) := ⟨.inr rfl, h⟩
theorem lessC_refl : ∀ (l : List (Option Value)), lessC l l
  | [] => trivial
  | _ :: l => lessC_eq (lessC_refl l)
theorem less_refl : ∀ (l : List Blk), less l l
  | [] => trivial
  | a :: l => less_cons rfl rfl (lessC_refl a.cs) (less_refl l)
theorem less_last : ∀ (l : List Blk) {k : Nat} {c d : List (Option Value)} {t : TypeId}, lessC c d → less (l ++ [⟨k, c, t⟩]) (l ++ [⟨k, d, t⟩])
  | [], _, _, _, _, h => less_cons rfl rfl h trivial
  | a :: l, _, _, _, _, h => ⟨(less_refl [a]).1, less_last l h⟩
theorem less_own {x : World} : ∀ {l m : List Blk}, less l m → ∀ (B : Nat), (∀ b ∈ l, B ≤ b.k ∧ b.ok x) → ∀ b ∈ m, B ≤ b.k ∧ b.ok x
  | [], [], _, _, _ => by simp
  | a :: l, b :: m, h, B, hl => by
    obtain ⟨⟨h1, h2, h3⟩, h4⟩ := h
    intro c hc
    rcases List.mem_cons.1 hc with rfl | hc
    · obtain ⟨g1, cs, g2, g3, g4⟩ := hl a (by simp)
      obtain ⟨h5, h6⟩ := lessC_spec h3
      exact ⟨by rw [← h1]; exact g1, cs, by rw [← h1, ← h2]; exact g2, by rw [← h5]; exact g3, fun i v hv => g4 i v (h6 i v hv)⟩
    · exact less_own h4 B (fun b hb => hl b (by simp [hb])) c hc
  | [], _ :: _, h, _, _ => h.elim
  | _ :: _, [], h, _, _ => h.elim
theorem less_keys : ∀ {l m : List Blk}, less l m → l.map (·.k) = m.map (·.k)
  | [], [], _ => rfl
  | a :: l, b :: m, h => by
    simp only [List.map_cons]
    rw [h.1.1, less_keys h.2]
  | [], _ :: _, h => h.elim
  | _ :: _, [], h => h.elim
theorem St.less {w0 : World} {l m : List Blk} {x : World} (h : St w0 l x) (hl : less l m) : St w0 m x := by
  refine ⟨h.below, less_own hl _ h.own, ?_⟩
  have hp := h.apart
  rw [← List.pairwise_map (f := fun b : Blk => b.k) (R := fun a b : Nat => a ≠ b)] at hp ⊢
  rw [← less_keys hl]
  exact hp
theorem St.fewer {w0 : World} {l m : List Blk} {x : World} (h : St w0 (l ++ m) x) : St w0 l x := ⟨h.below, fun b hb => h.own b (by simp [hb]), (List.pairwise_append.1 h.apart).1⟩

section
variable {P : Program} {ops : Array Oper} {Q : Exit → Act → World → Prop} {md : Region.Mode}
theorem step_new {i d : Nat} {oi : Oper} {n : Nat} {listed : Array Bool} {w0 : World} {bs : List Blk} {l : List Value} {ds : List Deferred} (hi : ops[i]? = some oi) (hd : oi.dst = some d)
    (hw : Region.wanted oi (yielded ops l.toArray) = true) (cs : List Value) (t : TypeId) (v : Nat → Value) (ds' : List (Option Value)) (hl : lessC (cs.map some) ds')
    (hv : ∀ w, St w0 bs w → (execOp (Act.mk l.toArray ds).eval oi).run P w = .ok (.value (v w.heap.size)) (w.alloc (.cells cs.toArray t (0, 0))))
    (h : ∀ k, Any P md ops Q n (listed.setIfInBounds i true) (St w0 (bs ++ [⟨k, ds', t⟩])) ⟨(l.set d (v k)).toArray, ds⟩) : Step P md ops Q n listed (St w0 bs) ⟨l.toArray, ds⟩ i := by
  intro w hS
  unfold wpOp
  simp only [hi, hw, if_true]
  refine .inl ?_
  unfold Oper.wp
  rw [hv w hS, Oper.upon_value, hd, put_some]
  exact ⟨St w0 (bs ++ [⟨w.heap.size, ds', t⟩]), st_ups _ _, fun _ h => h.fewer, (hS.alloc rfl cs t).less (less_last _ hl), h _⟩
theorem lin_new {i d : Nat} {oi : Oper} {rest : List Nat} {w0 : World} {bs : List Blk} {l : List Value} {ds : List Deferred} (hi : ops[i]? = some oi) (hd : oi.dst = some d)
    (hw : Region.wanted oi (yielded ops l.toArray) = true) (cs : List Value) (t : TypeId) (v : Nat → Value) (ds' : List (Option Value)) (hl : lessC (cs.map some) ds')
    (hv : ∀ w, St w0 bs w → (execOp (Act.mk l.toArray ds).eval oi).run P w = .ok (.value (v w.heap.size)) (w.alloc (.cells cs.toArray t (0, 0))))
    (h : ∀ k, Lin P ops Q rest (St w0 (bs ++ [⟨k, ds', t⟩])) ⟨(l.set d (v k)).toArray, ds⟩) : Lin P ops Q (i :: rest) (St w0 bs) ⟨l.toArray, ds⟩ := ⟨fun w hS => by
  rw [wpOps_cons]
  unfold wpOp
  simp only [hi, hw, if_true]
  refine .inl ?_
  unfold Oper.wp
  rw [hv w hS, Oper.upon_value, hd, put_some]
  exact (h _).run _ ((hS.alloc rfl cs t).less (less_last _ hl))⟩
theorem calls_is {P : Program} {f : FuncId} {args : Array Value} {w : World} {v v' : Value} (hc : Calls P f args w fun e w' => e = .returned v ∧ Below w.heap.size w w') (h : v = v') : Calls P f args w fun e w' => e = .returned v' ∧ Below w.heap.size w w' := h ▸ hc
end
end Go.Proofs.YtejcjjimhaokfaaDoor.Up
