/-
  Regions that draw their order, in which cells are read and then written: the writers (Wr) stand behind the readers in every order.
-/
import Derived.Test.YtpbhfpogbndljaaDoorCap
namespace Go.Proofs.YtpbhfpogbndljaaDoor.Up
open Go.RowKit
section
variable {P : Program} {ops : Array Oper} {Q : Exit → Act → World → Prop} {md : Region.Mode}

/-- Whatever order is picked from here on, from whatever world of S; each step that is no writer's chooses a smaller S. -/
def Anw (P : Program) (md : Region.Mode) (ops : Array Oper) (Q : Exit → Act → World → Prop) (Wr : Nat → Bool) : Nat → Array Bool → (World → Prop) → Act → Prop
  | 0, listed, S, a => Region.ready md ops listed = [] ∧ ∀ w, S w → Q .normal a w
  | n + 1, listed, S, a => (Region.ready md ops listed = [] → ∀ w, S w → Q .normal a w) ∧
    ∀ i ∈ Region.ready md ops listed, ∀ w, S w → wpOp P ops Q i (fun a' w' => ∃ T : World → Prop, Ups T ∧ (Wr i = false → ∀ x, T x → S x) ∧ T w' ∧ Anw P md ops Q Wr n (listed.setIfInBounds i true) T a') a w

theorem anw_sound {Wr : Nat → Bool} : ∀ (n : Nat) (listed : Array Bool) (S : World → Prop) (a : Act), Anw P md ops Q Wr n listed S a → ∀ w, S w → wpAny P md ops Q n listed a w
  | 0, _, _, _, h, w, hS => ⟨h.1, h.2 w hS⟩
  | n + 1, _, _, _, h, w, hS => ⟨fun h0 => h.1 h0 w hS, fun i hi => wpOp_mono (fun a' w' hT => by
      obtain ⟨T, _, _, hw, hA⟩ := hT
      exact anw_sound n _ T a' hA w' hw) (h.2 i hi w hS)⟩

theorem anw_first {Wr : Nat → Bool} {i : Nat} {oi : Oper} {v : Value} {E : Sem Next} (hi : ops[i]? = some oi) (hsel : ∀ (j : Nat) (o : Oper) cs b, ops[j]? = some o → o.op ≠ .select cs b)
    (hQ : ∀ c a w, Q (.panic c) (a.put oi.dst v) w → Q (.panic c) a w) (hWi : Wr i = false)
    (hB : (∀ j oj, ops[j]? = some oj → Wr j = true → ∃ e ∈ oj.after, Region.binds md e = true ∧ e.on = i) ∨ Gives P (fun _ => True) E v) :
    ∀ (n : Nat) (listed : Array Bool) (S : World → Prop) (a : Act),
      (∀ j oj, ops[j]? = some oj → j ≠ i → listed.getD j true = false → (∀ e ∈ oj.after, Region.binds md e = true → e.on ≠ i) → oi.apart ops oj = true) →
      i ∈ Region.ready md ops listed → Ups S → (execOp a.eval oi = E ∧ Region.wanted oi (yielded ops a.tmps) = true) → Gives P S E v →
      Anw P md ops Q Wr n (listed.setIfInBounds i true) S (a.put oi.dst v) → Anw P md ops Q Wr (n + 1) listed S a := by
  intro n
  have own : ∀ (n : Nat) (listed : Array Bool) (S : World → Prop) (a : Act), Ups S → (execOp a.eval oi = E ∧ Region.wanted oi (yielded ops a.tmps) = true) → Gives P S E v →
      Anw P md ops Q Wr n (listed.setIfInBounds i true) S (a.put oi.dst v) → ∀ w, S w → wpOp P ops Q i (fun a' w' => ∃ T : World → Prop, Ups T ∧ (Wr i = false → ∀ x, T x → S x) ∧ T w' ∧ Anw P md ops Q Wr n (listed.setIfInBounds i true) T a') a w := by
    intro n listed S a hU hG hy H w hS
    exact gives_op hi hG.2 (by rw [hG.1]; exact hy) hS fun w' hB => ⟨S, hU, fun _ _ h => h, hU w w' hS hB, H⟩
  induction n with
  | zero =>
    intro listed S a _ hr hU hG hy H
    refine ⟨fun h => (by rw [h] at hr; cases hr), fun j hj w hS => ?_⟩
    by_cases hji : j = i
    · subst hji; exact own 0 listed S a hU hG hy H w hS
    · have := ready_mono hj hji
      rw [H.1] at this
      cases this
  | succ n ih =>
    intro listed S a hfree hr hU hG hy H
    refine ⟨fun h => (by rw [h] at hr; cases hr), fun j hj w hS => ?_⟩
    by_cases hji : j = i
    · subst hji; exact own (n + 1) listed S a hU hG hy H w hS
    · have h1 := H.2 j (ready_mono hj hji) w hS
      obtain ⟨hjun, oj, hoj, hall⟩ := mem_ready.1 hj
      have hnot : ∀ e ∈ oj.after, Region.binds md e = true → e.on ≠ i := fun e he hb heq => by
        have h1 := hall e he hb
        have h0 := (mem_ready.1 hr).1
        rw [heq] at h1
        rcases Nat.lt_or_ge i listed.size with h' | h'
        · simp [h'] at h0 h1; rw [h0] at h1; cases h1
        · simp [Array.getElem?_eq_none h'] at h1
      have hap := hfree j oj hoj hji hjun hnot
      obtain ⟨_, _, h3⟩ := Oper.apart_spec hap
      have h2 := putG (G := fun a => execOp a.eval oi = E ∧ Region.wanted oi (yielded ops a.tmps) = true) hoj hap (fun cs b => hsel j oj cs b hoj) hQ
        (fun a hy u => ⟨by rw [execOp_put oi (fun cs b => hsel i oi cs b hi) a oj.dst u h3]; exact hy.1, by rw [wanted_put oi a oj.dst u h3]; exact hy.2⟩)
        (fun a hy d => hy) hG h1
      have hfree' : ∀ k ok, ops[k]? = some ok → k ≠ i → (listed.setIfInBounds j true).getD k true = false →
          (∀ e ∈ ok.after, Region.binds md e = true → e.on ≠ i) → oi.apart ops ok = true := fun k ok hk hki hun hno => by
        refine hfree k ok hk hki ?_ hno
        by_cases hjk : j = k
        · subst hjk; exact hjun
        · rw [getD_set_ne true hjk] at hun; exact hun
      refine wpOp_mono (fun a' w' hk => ?_) h2
      obtain ⟨hG', T, hT, hTS, hTw, hA⟩ := hk
      have hyT : Gives P T E v := by
        rcases hB with hB | hB
        · have hWj : Wr j = false := by
            cases q : Wr j
            · rfl
            · obtain ⟨e, he, hb, ho⟩ := hB j oj hoj q
              exact absurd ho (hnot e he hb)
          exact fun w hw => hy w (hTS hWj w hw)
        · exact fun w _ => hB w trivial
      refine ⟨T, hT, hTS, hTw, ih (listed.setIfInBounds j true) T a' hfree' (ready_mono hr (Ne.symm hji)) hT hG' hyT ?_⟩
      rw [Array.setIfInBounds_comm _ _ hji]
      exact hA

/-- Every writer stands behind operation i. -/
def behind (md : Region.Mode) (ops : Array Oper) (Wr : Nat → Bool) (i : Nat) : Bool :=
  (List.range ops.size).all fun j => !Wr j || (match ops[j]? with | some o => o.after.any fun e => Region.binds md e && e.on == i | none => true)
theorem behind_spec {Wr : Nat → Bool} {i : Nat} (h : behind md ops Wr i = true) (j : Nat) (oj : Oper) (hj : ops[j]? = some oj) (hW : Wr j = true) : ∃ e ∈ oj.after, Region.binds md e = true ∧ e.on = i := by
  have hl : j < ops.size := (Array.getElem?_eq_some_iff.1 hj).1
  unfold behind at h
  rw [List.all_eq_true] at h
  have := h j (List.mem_range.2 hl)
  rw [hW, hj] at this
  simp only [Bool.not_true, Bool.false_or, Array.any_eq_true', Bool.and_eq_true, beq_iff_eq] at this
  exact this
theorem wake_val {Wr : Nat → Bool} {i d : Nat} {oi : Oper} {v : Value} {n : Nat} {listed : Array Bool} {S : World → Prop} {l : List Value} {ds : List Deferred} (hU : Ups S) (hi : ops[i]? = some oi) (hd : oi.dst = some d)
    (hk : okay md ops listed i = true) (hWi : Wr i = false) (hB : behind md ops Wr i = true)
    (hQ : ∀ c a w, Q (.panic c) (a.put (some d) v) w → Q (.panic c) a w) (hw : Region.wanted oi (yielded ops l.toArray) = true)
    (hv : ∀ w, S w → (execOp (Act.mk l.toArray ds).eval oi).run P w = .ok (.value v) w)
    (h : Anw P md ops Q Wr n (listed.setIfInBounds i true) S ⟨(l.set d v).toArray, ds⟩) : Anw P md ops Q Wr (n + 1) listed S ⟨l.toArray, ds⟩ :=
  anw_first (a := ⟨l.toArray, ds⟩) (v := v) hi (Region.noSelect_spec (okay_spec hk).1) (by rw [hd]; exact hQ) hWi (.inl (behind_spec hB)) n listed S (Region.free_spec hi (okay_spec hk).2.1) (by simpa using (okay_spec hk).2.2) hU ⟨rfl, hw⟩ (fun w hS => .inl ⟨w, hv w hS, Below.refl _ _⟩) (by rw [hd, put_some]; exact h)
theorem wake_pure {Wr : Nat → Bool} {i d : Nat} {oi : Oper} {v : Value} {n : Nat} {listed : Array Bool} {S : World → Prop} {l : List Value} {ds : List Deferred} (hU : Ups S) (hi : ops[i]? = some oi) (hd : oi.dst = some d)
    (hk : okay md ops listed i = true) (hWi : Wr i = false)
    (hQ : ∀ c a w, Q (.panic c) (a.put (some d) v) w → Q (.panic c) a w) (hw : Region.wanted oi (yielded ops l.toArray) = true)
    (hv : ∀ w, True → (execOp (Act.mk l.toArray ds).eval oi).run P w = .ok (.value v) w)
    (h : Anw P md ops Q Wr n (listed.setIfInBounds i true) S ⟨(l.set d v).toArray, ds⟩) : Anw P md ops Q Wr (n + 1) listed S ⟨l.toArray, ds⟩ :=
  anw_first (a := ⟨l.toArray, ds⟩) (v := v) hi (Region.noSelect_spec (okay_spec hk).1) (by rw [hd]; exact hQ) hWi (.inr (fun w h => .inl ⟨w, hv w h, Below.refl _ _⟩)) n listed S (Region.free_spec hi (okay_spec hk).2.1) (by simpa using (okay_spec hk).2.2) hU ⟨rfl, hw⟩ (fun w _ => .inl ⟨w, hv w trivial, Below.refl _ _⟩) (by rw [hd, put_some]; exact h)
theorem wake_call {Wr : Nat → Bool} {i d : Nat} {oi : Oper} {v : Value} {f : FuncId} {args : Array Value} {n : Nat} {listed : Array Bool} {S : World → Prop} {l : List Value} {ds : List Deferred} (hU : Ups S) (hi : ops[i]? = some oi) (hd : oi.dst = some d)
    (hk : okay md ops listed i = true) (hWi : Wr i = false) (hB : behind md ops Wr i = true)
    (hQ : ∀ c a w, Q (.panic c) (a.put (some d) v) w → Q (.panic c) a w) (hw : Region.wanted oi (yielded ops l.toArray) = true)
    (he : ∀ w, S w → (execOp (Act.mk l.toArray ds).eval oi).run P w = .ok (.enter f args) w)
    (hc : ∀ w, S w → Calls P f args w fun e w' => e = .returned v ∧ Below w.heap.size w w')
    (h : Anw P md ops Q Wr n (listed.setIfInBounds i true) S ⟨(l.set d v).toArray, ds⟩) : Anw P md ops Q Wr (n + 1) listed S ⟨l.toArray, ds⟩ :=
  anw_first (a := ⟨l.toArray, ds⟩) (v := v) hi (Region.noSelect_spec (okay_spec hk).1) (by rw [hd]; exact hQ) hWi (.inl (behind_spec hB)) n listed S (Region.free_spec hi (okay_spec hk).2.1) (by simpa using (okay_spec hk).2.2) hU ⟨rfl, hw⟩ (fun w hS => .inr ⟨f, args, w, he w hS, hc w hS⟩) (by rw [hd, put_some]; exact h)
theorem wake_store {Wr : Nat → Bool} {i : Nat} {oi : Oper} {n : Nat} {listed : Array Bool} {S : World → Prop} {a : Act} (T : World → Prop) (hU : Ups T) (hr : Region.ready md ops listed = [i]) (hWi : Wr i = true) (hi : ops[i]? = some oi) (hd : oi.dst = none)
    (hw : Region.wanted oi (yielded ops a.tmps) = true) (g : World → World)
    (hv : ∀ w, S w → (execOp a.eval oi).run P w = .ok .skip (g w)) (hT : ∀ w, S w → T (g w))
    (h : Anw P md ops Q Wr n (listed.setIfInBounds i true) T a) : Anw P md ops Q Wr (n + 1) listed S a :=
  ⟨fun h0 => (by rw [hr] at h0; cases h0), fun j hj w hS => by
    rw [hr] at hj
    simp only [List.mem_singleton] at hj
    subst hj
    unfold wpOp
    simp only [hi, hw, if_true]
    refine .inl ?_
    unfold Oper.wp
    rw [hv w hS, Oper.upon_skip, hd]
    exact ⟨T, hU, (fun h => by rw [hWi] at h; cases h), hT w hS, h⟩⟩
theorem wake_done {Wr : Nat → Bool} {listed : Array Bool} {S : World → Prop} {a : Act} (hr : Region.ready md ops listed = []) (h : ∀ w, S w → Q .normal a w) :
    ∀ n, Anw P md ops Q Wr n listed S a
  | 0 => ⟨hr, h⟩
  | _ + 1 => ⟨fun _ => h, by rw [hr]; simp⟩
end
section
variable {P : Program} {ops : Array Oper} {Q : Exit → Act → World → Prop}
theorem wake_begin {id : Nat} {a : Act} {w : World} (S : World → Prop) (Wr : Nat → Bool) (n : Nat) (hn : ops.size = n) (hm : P.follows .mixedOrders = true) (hS : S w.drew)
    (h : Anw P .any ops Q Wr n (Array.replicate n false) S a) : (Code.region id ops true).wp P Q a w := by
  subst hn
  exact wp_region_any hm (anw_sound _ _ S a h w.drew hS)
end
end Go.Proofs.YtpbhfpogbndljaaDoor.Up
