/-
  Calls that turn what is known (closures that write what they captured), blocks from outside that are read: for walks that are written by program (tools/sym.py).
-/
import Derived.Laws.EntriesVeiled
import Derived.Test.YtpbhfpogbndljaaDoorOps
namespace Go.Proofs.YtpbhfpogbndljaaDoor.Up
open Go.RowKit Go.Proofs.YtpbhfpogbndljaaDoor.Num
section
variable {P : Program} {ops : Array Oper} {Q : Exit → Act → World → Prop}
theorem lin_call_to {i d : Nat} {oi : Oper} {v : Value} {f : FuncId} {args : Array Value} {rest : List Nat} {S T : World → Prop} {l : List Value} {ds : List Deferred} (hi : ops[i]? = some oi) (hd : oi.dst = some d)
    (hw : Region.wanted oi (yielded ops l.toArray) = true)
    (he : ∀ w, S w → (execOp (Act.mk l.toArray ds).eval oi).run P w = .ok (.enter f args) w)
    (hc : ∀ w, S w → Calls P f args w fun e w' => e = .returned v ∧ T w')
    (h : Lin P ops Q rest T ⟨(l.set d v).toArray, ds⟩) : Lin P ops Q (i :: rest) S ⟨l.toArray, ds⟩ := ⟨fun w hS => by
  rw [wpOps_cons]
  unfold wpOp
  simp only [hi, hw, if_true]
  refine .inl ?_
  unfold Oper.wp
  rw [he w hS, Oper.upon_enter]
  refine Calls.mono (hc w hS) fun e w' hr => ?_
  obtain ⟨rfl, hT⟩ := hr
  show wpOps P ops Q rest (Act.put ⟨l.toArray, ds⟩ oi.dst v) w'
  rw [hd, put_some]
  exact h.run w' hT⟩
end
theorem Blk.ok.up {b : Blk} {w x : World} (h : b.ok w) (hb : Below w.heap.size w x) : b.ok x := by
  obtain ⟨cs, h1, h2, h3⟩ := h
  exact ⟨cs, ups_block _ _ _ _ h1 hb, h2, h3⟩
theorem far_load {b : Blk} {w x : World} {l : List Blk} (h : b.ok w) (hx : St w l x) (i : Nat) {v : Value} (hi : b.cs[i]? = some (some v)) : x.cell? ⟨b.k, i, none⟩ = some v := by
  obtain ⟨cs, h1, _, h3⟩ := h.up hx.below
  have := h3 i v hi
  simp [World.cell?, h1, this]
theorem St.okat {w0 : World} {l : List Blk} {x : World} (h : St w0 l x) (j : Nat) {b : Blk} (hj : l[j]? = some b) : b.ok x := (h.own b (List.mem_of_getElem? hj)).2
theorem St.init {w0 : World} {l : List Blk} {b : Blk} {x : World} (h : St w0 (l ++ [b]) x) : St w0 l x :=
  ⟨h.below, fun c hc => h.own c (List.mem_append_left _ hc), (List.pairwise_append.1 h.apart).1⟩
theorem St.swap {w0 : World} {l : List Blk} {a b : Blk} {x : World} (h : St w0 ((l ++ [a]) ++ [b]) x) : St w0 ((l ++ [b]) ++ [a]) x := by
  refine ⟨h.below, fun c hc => h.own c ?_, ?_⟩
  · simp only [List.mem_append, List.mem_singleton] at hc ⊢
    rcases hc with (hc | hc) | hc
    · exact .inl (.inl hc)
    · exact .inr hc
    · exact .inl (.inr hc)
  · have hp := h.apart
    rw [List.pairwise_append, List.pairwise_append] at hp ⊢
    obtain ⟨⟨h1, _, h3⟩, _, h5⟩ := hp
    simp only [List.mem_append, List.mem_singleton] at h3 h5 ⊢
    refine ⟨⟨h1, by simp, fun c hc d hd => h5 c (.inl hc) d hd⟩, by simp, fun c hc d hd => ?_⟩
    rcases hc with hc | hc
    · exact h3 c hc d hd
    · subst hc; subst hd
      exact Ne.symm (h5 d (.inr rfl) c rfl)
section
variable {P : Program} {ops : Array Oper} {Q : Exit → Act → World → Prop} {md : Region.Mode}
/-- Two blocks that are made in either order. -/
theorem take_two_new {i j di dj : Nat} {oi oj : Oper} {n : Nat} {listed : Array Bool} {w0 : World} {bs : List Blk} {l : List Value} {ds : List Deferred} (hi : ops[i]? = some oi) (hj : ops[j]? = some oj) (hdi : oi.dst = some di) (hdj : oj.dst = some dj) (hne : di ≠ dj) (hij : i ≠ j)
    (hr : Region.ready md ops listed = [i, j]) (hri : Region.ready md ops (listed.setIfInBounds i true) = [j]) (hrj : Region.ready md ops (listed.setIfInBounds j true) = [i])
    (ci : List Value) (ti : TypeId) (vi : Nat → Value) (ei : List (Option Value)) (hli : lessC (ci.map some) ei)
    (cj : List Value) (tj : TypeId) (vj : Nat → Value) (ej : List (Option Value)) (hlj : lessC (cj.map some) ej)
    (hwi : Region.wanted oi (yielded ops l.toArray) = true) (hwj : Region.wanted oj (yielded ops l.toArray) = true)
    (hwi' : ∀ k, Region.wanted oi (yielded ops (l.set dj (vj k)).toArray) = true) (hwj' : ∀ k, Region.wanted oj (yielded ops (l.set di (vi k)).toArray) = true)
    (hvi : ∀ w, St w0 bs w → (execOp (Act.mk l.toArray ds).eval oi).run P w = .ok (.value (vi w.heap.size)) (w.alloc (.cells ci.toArray ti (0, 0))))
    (hvj : ∀ w, St w0 bs w → (execOp (Act.mk l.toArray ds).eval oj).run P w = .ok (.value (vj w.heap.size)) (w.alloc (.cells cj.toArray tj (0, 0))))
    (hvi' : ∀ k w, St w0 bs w → (execOp (Act.mk (l.set dj (vj k)).toArray ds).eval oi).run P w = .ok (.value (vi w.heap.size)) (w.alloc (.cells ci.toArray ti (0, 0))))
    (hvj' : ∀ k w, St w0 bs w → (execOp (Act.mk (l.set di (vi k)).toArray ds).eval oj).run P w = .ok (.value (vj w.heap.size)) (w.alloc (.cells cj.toArray tj (0, 0))))
    (h : ∀ p q, Any P md ops Q n ((listed.setIfInBounds i true).setIfInBounds j true) (St w0 ((bs ++ [⟨p, ei, ti⟩]) ++ [⟨q, ej, tj⟩])) ⟨((l.set di (vi p)).set dj (vj q)).toArray, ds⟩) : Any P md ops Q (n + 2) listed (St w0 bs) ⟨l.toArray, ds⟩ := by
  refine take_two hr (step_new hi hdi hwi ci ti vi ei hli hvi fun p => take_one hri (step_new hj hdj (hwj' p) cj tj vj ej hlj (fun w hw => hvj' p w hw.init) fun q => h p q))
    (step_new hj hdj hwj cj tj vj ej hlj hvj fun q => take_one hrj (step_new hi hdi (hwi' q) ci ti vi ei hli (fun w hw => hvi' q w hw.init) fun p => ?_))
  have e := h p q
  rw [Array.setIfInBounds_comm _ _ hij, List.set_comm _ _ hne] at e
  rw [show St w0 ((bs ++ [⟨q, ej, tj⟩]) ++ [⟨p, ei, ti⟩]) = St w0 ((bs ++ [⟨p, ei, ti⟩]) ++ [⟨q, ej, tj⟩]) from funext fun x => propext ⟨St.swap, St.swap⟩]
  exact e
end
theorem notUT (x : BitVec 64) : bits .xor .u64 18446744073709551615 (tn x) = tn (~~~x) := by
  have h := xorUT 18446744073709551615#64 x
  rw [show tn 18446744073709551615#64 = 18446744073709551615 from rfl] at h
  rw [h]
  congr 1
/-- What is known of a number: bits, two spans. -/
structure Sc where
  t : P
  u : P
  s : P
def eqSc (x y : Sc) : Bool := eqP x.t y.t && (eqP x.u y.u && eqS x.s y.s)
theorem eqScT {α : Type} (X : Bool → α) (a0 a1 a2 a3 a4 a5 b0 b1 b2 b3 b4 b5 : BitVec 64) :
    (if tn a0 = tn b0 then (if tn a1 = tn b1 then (if tn a2 = tn b2 then (if tn a3 = tn b3 then (if ti a4 = ti b4 then (if ti a5 = ti b5 then X true else X false) else X false) else X false) else X false) else X false) else X false)
      = X (eqSc ⟨⟨a0, a1⟩, ⟨a2, a3⟩, ⟨a4, a5⟩⟩ ⟨⟨b0, b1⟩, ⟨b2, b3⟩, ⟨b4, b5⟩⟩) := by
  unfold eqSc
  rw [eqST]
  have e := eqPT (fun q => X (q && eqS ⟨a4, a5⟩ ⟨b4, b5⟩)) a2 a3 b2 b3
  simp only [Bool.true_and, Bool.false_and] at e
  rw [e]
  have e2 := eqPT (fun q => X (q && (eqP ⟨a2, a3⟩ ⟨b2, b3⟩ && eqS ⟨a4, a5⟩ ⟨b4, b5⟩))) a0 a1 b0 b1
  simp only [Bool.true_and, Bool.false_and] at e2
  rw [e2]
theorem eqSc_of {x y : Sc} (h : eqSc x y = true) : x = y := by
  obtain ⟨⟨a0, a1⟩, ⟨a2, a3⟩, ⟨a4, a5⟩⟩ := x
  obtain ⟨⟨b0, b1⟩, ⟨b2, b3⟩, ⟨b4, b5⟩⟩ := y
  simp only [eqSc, eqP, eqS, Bool.and_eq_true, beq_iff_eq] at h
  obtain ⟨⟨rfl, rfl⟩, ⟨rfl, rfl⟩, rfl, rfl⟩ := h
  rfl
end Go.Proofs.YtpbhfpogbndljaaDoor.Up
