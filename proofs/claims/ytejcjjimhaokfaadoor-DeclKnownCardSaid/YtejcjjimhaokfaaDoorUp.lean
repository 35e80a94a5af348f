/-
  Regions that draw their order and hold calls that make memory: walked in one order, whatever is known being kept by all that only adds to memory.
-/
import Derived.OrdersHeld
import Derived.Below
import Derived.Deep.RegionHeld3
import Derived.Test.YtejcjjimhaokfaaDoorRows
namespace Go.Proofs.YtejcjjimhaokfaaDoor.Up
open Go.RowKit

/-- What holds of a world still holds where memory has only been added to. -/
def Ups (S : World → Prop) : Prop := ∀ w w', S w → Below w.heap.size w w' → S w'

/-- In every world of S the operation leaves v, and turns nothing that was there. -/
def Gives (P : Program) (S : World → Prop) (E : Sem Next) (v : Value) : Prop := ∀ w, S w →
  (∃ w', E.run P w = .ok (.value v) w' ∧ Below w.heap.size w w') ∨
  (∃ f args w1, E.run P w = .ok (.enter f args) w1 ∧ Calls P f args w1 (fun e w' => e = .returned v ∧ Below w.heap.size w w'))

section
variable {P : Program} {ops : Array Oper} {Q : Exit → Act → World → Prop} {md : Region.Mode}

/-- Whatever order is picked from here on, from whatever world of S; each step may choose a smaller S. -/
def Any (P : Program) (md : Region.Mode) (ops : Array Oper) (Q : Exit → Act → World → Prop) : Nat → Array Bool → (World → Prop) → Act → Prop
  | 0, listed, S, a => Region.ready md ops listed = [] ∧ ∀ w, S w → Q .normal a w
  | n + 1, listed, S, a => (Region.ready md ops listed = [] → ∀ w, S w → Q .normal a w) ∧
    ∀ i ∈ Region.ready md ops listed, ∀ w, S w → wpOp P ops Q i (fun a' w' => ∃ T : World → Prop, Ups T ∧ (∀ x, T x → S x) ∧ T w' ∧ Any P md ops Q n (listed.setIfInBounds i true) T a') a w

theorem any_sound : ∀ (n : Nat) (listed : Array Bool) (S : World → Prop) (a : Act), Any P md ops Q n listed S a → ∀ w, S w → wpAny P md ops Q n listed a w
  | 0, _, _, _, h, w, hS => ⟨h.1, h.2 w hS⟩
  | n + 1, _, _, _, h, w, hS => ⟨fun h0 => h.1 h0 w hS, fun i hi => wpOp_mono (fun a' w' hT => by
      obtain ⟨T, _, _, hw, hA⟩ := hT
      exact any_sound n _ T a' hA w' hw) (h.2 i hi w hS)⟩

theorem putG {j : Nat} {oi oj : Oper} {v : Value} {G : Act → Prop} (hj : ops[j]? = some oj) (hap : oi.apart ops oj = true)
    (hsj : ∀ cs b, oj.op ≠ .select cs b)
    (hQ : ∀ c a w, Q (.panic c) (a.put oi.dst v) w → Q (.panic c) a w) {K : Act → World → Prop} {a : Act} {w : World}
    (keep : ∀ (a : Act), G a → ∀ u, G (a.put oj.dst u)) (keepD : ∀ (a : Act), G a → ∀ d, G { a with defers := d :: a.defers })
    (hy : G a) (h : wpOp P ops Q j K (a.put oi.dst v) w) :
    wpOp P ops Q j (fun a' w' => G a' ∧ K (a'.put oi.dst v) w') a w := by
  obtain ⟨h1, h2, _⟩ := Oper.apart_spec hap
  unfold wpOp at *
  simp only [hj] at *
  rw [wanted_put oj a oi.dst v h1] at h
  split
  · rename_i hw
    simp only [hw, if_true] at h
    rcases h with h | ⟨hasks, hlets⟩
    case inr => exact .inr ⟨by unfold Oper.asks at *; rw [execOp_put oj hsj a oi.dst v h1] at hasks; exact hasks, hlets⟩
    refine .inl ?_
    unfold Oper.wp at *
    rw [execOp_put oj hsj a oi.dst v h1] at h
    generalize (execOp a.eval oj).run P w = r at *
    cases r with
    | ok n w' =>
      cases n <;> simp only [Oper.upon] at h ⊢
      case value u => exact ⟨keep a hy u, by rw [← Act.put_comm a v u h2]; exact h⟩
      case skip => exact ⟨keep a hy _, by rw [← Act.put_comm a v undef h2]; exact h⟩
      case defer d =>
        refine ⟨keep _ (keepD a hy d) _, ?_⟩
        rw [← Act.put_comm _ v undef h2, ← Act.put_defers]
        exact h
      case enter f args =>
        refine Calls.mono h fun e w'' he => ?_
        cases e with
        | returned u => exact ⟨keep a hy u, by rw [← Act.put_comm a v u h2]; exact he⟩
        | panicked c => exact hQ _ _ _ he
        | outgrown => exact he
      case row row args => exact Rows.mono h fun u w'' he => ⟨keep a hy u, by rw [← Act.put_comm a v u h2]; exact he⟩
    | halt x w' =>
      cases x <;> simp only [Oper.upon] at h ⊢
      case panic u => exact hQ _ _ _ h
  · rename_i hw
    simp only [hw] at h
    exact ⟨keep a hy _, by rw [← Act.put_comm a v undef h2]; exact h⟩

theorem gives_op {i : Nat} {oi : Oper} {v : Value} {a : Act} {S : World → Prop} {K : Act → World → Prop} {w : World} (hi : ops[i]? = some oi)
    (hw : Region.wanted oi (yielded ops a.tmps) = true) (hg : Gives P S (execOp a.eval oi) v) (hS : S w)
    (h : ∀ w', Below w.heap.size w w' → K (a.put oi.dst v) w') : wpOp P ops Q i K a w := by
  unfold wpOp
  simp only [hi, hw, if_true]
  refine .inl ?_
  unfold Oper.wp
  rcases hg w hS with ⟨w', e, hb⟩ | ⟨f, args, w1, e, hc⟩
  · rw [e]; exact h w' hb
  · rw [e, Oper.upon_enter]
    refine Calls.mono hc fun e w' he => ?_
    obtain ⟨rfl, hb⟩ := he
    exact h w' hb

theorem any_first {i : Nat} {oi : Oper} {v : Value} {E : Sem Next} {b : Bool} (hi : ops[i]? = some oi) (hsel : ∀ (j : Nat) (o : Oper) cs b, ops[j]? = some o → o.op ≠ .select cs b)
    (hQ : ∀ c a w, Q (.panic c) (a.put oi.dst v) w → Q (.panic c) a w) :
    ∀ (n : Nat) (listed : Array Bool) (S : World → Prop) (a : Act),
      (∀ j oj, ops[j]? = some oj → j ≠ i → listed.getD j true = false → (∀ e ∈ oj.after, Region.binds md e = true → e.on ≠ i) → oi.apart ops oj = true) →
      i ∈ Region.ready md ops listed → Ups S → (execOp a.eval oi = E ∧ Region.wanted oi (yielded ops a.tmps) = b) → (b = true → Gives P S E v) → (b = false → v = undef) →
      Any P md ops Q n (listed.setIfInBounds i true) S (a.put oi.dst v) → Any P md ops Q (n + 1) listed S a := by
  intro n
  have own : ∀ (n : Nat) (listed : Array Bool) (S : World → Prop) (a : Act), Ups S → (execOp a.eval oi = E ∧ Region.wanted oi (yielded ops a.tmps) = b) → (b = true → Gives P S E v) → (b = false → v = undef) →
      Any P md ops Q n (listed.setIfInBounds i true) S (a.put oi.dst v) → ∀ w, S w → wpOp P ops Q i (fun a' w' => ∃ T : World → Prop, Ups T ∧ (∀ x, T x → S x) ∧ T w' ∧ Any P md ops Q n (listed.setIfInBounds i true) T a') a w := by
    intro n listed S a hU hG hy hn H w hS
    cases hb : b with
    | true => exact gives_op hi (by rw [hG.2, hb]) (by rw [hG.1]; exact hy hb) hS fun w' hB => ⟨S, hU, fun _ h => h, hU w w' hS hB, H⟩
    | false =>
      have hw : Region.wanted oi (yielded ops a.tmps) = false := by rw [hG.2, hb]
      have hv := hn hb
      subst hv
      unfold wpOp
      simp only [hi, hw, Bool.false_eq_true, if_false]
      exact ⟨S, hU, fun _ h => h, hS, H⟩
  induction n with
  | zero =>
    intro listed S a _ hr hU hG hy hn H
    refine ⟨fun h => (by rw [h] at hr; cases hr), fun j hj w hS => ?_⟩
    by_cases hji : j = i
    · subst hji; exact own 0 listed S a hU hG hy hn H w hS
    · have := ready_mono hj hji
      rw [H.1] at this
      cases this
  | succ n ih =>
    intro listed S a hfree hr hU hG hy hn H
    refine ⟨fun h => (by rw [h] at hr; cases hr), fun j hj w hS => ?_⟩
    by_cases hji : j = i
    · subst hji; exact own (n + 1) listed S a hU hG hy hn H w hS
    · have h1 := H.2 j (ready_mono hj hji) w hS
      obtain ⟨hjun, oj, hoj, hall⟩ := mem_ready.1 hj
      have hnot : ∀ e ∈ oj.after, Region.binds md e = true → e.on ≠ i := fun e he hb heq => by
        have h1 := hall e he hb
        have h0 := (mem_ready.1 hr).1
        rw [heq] at h1
        rcases Nat.lt_or_ge i listed.size with h' | h'
        · simp [h'] at h0 h1; rw [h0] at h1; cases h1
        · simp [Array.getElem?_eq_none h'] at h1
      have hap := hfree j oj hoj hji hjun hnot
      obtain ⟨_, _, h3⟩ := Oper.apart_spec hap
      have h2 := putG (G := fun a => execOp a.eval oi = E ∧ Region.wanted oi (yielded ops a.tmps) = b) hoj hap (fun cs b => hsel j oj cs b hoj) hQ
        (fun a hy u => ⟨by rw [execOp_put oi (fun cs b => hsel i oi cs b hi) a oj.dst u h3]; exact hy.1, by rw [wanted_put oi a oj.dst u h3]; exact hy.2⟩)
        (fun a hy d => hy) hG h1
      have hfree' : ∀ k ok, ops[k]? = some ok → k ≠ i → (listed.setIfInBounds j true).getD k true = false →
          (∀ e ∈ ok.after, Region.binds md e = true → e.on ≠ i) → oi.apart ops ok = true := fun k ok hk hki hun hno => by
        refine hfree k ok hk hki ?_ hno
        by_cases hjk : j = k
        · subst hjk; exact hjun
        · rw [getD_set_ne true hjk] at hun; exact hun
      refine wpOp_mono (fun a' w' hk => ?_) h2
      obtain ⟨hG', T, hT, hTS, hTw, hA⟩ := hk
      refine ⟨T, hT, hTS, hTw, ih (listed.setIfInBounds j true) T a' hfree' (ready_mono hr (Ne.symm hji)) hT hG' (fun hb w hw => hy hb w (hTS w hw)) hn ?_⟩
      rw [Array.setIfInBounds_comm _ _ hji]
      exact hA

theorem heap_new (w : World) (o : Obj) : (w.alloc o).heap[w.heap.size]? = some o := by
  show (w.heap.push o)[w.heap.size]? = some o
  simp
theorem heap_old {w : World} {k : Nat} {o : Obj} (h : w.heap[k]? = some o) (p : Obj) : (w.alloc p).heap[k]? = some o := by
  have hk : k < w.heap.size := by
    rcases Nat.lt_or_ge k w.heap.size with h' | h'
    · exact h'
    · rw [Array.getElem?_eq_none h'] at h; cases h
  rw [Below.heap_alloc _ _ _ hk]; exact h
theorem ups_and {S T : World → Prop} (h : Ups S) (k : Ups T) : Ups fun x => S x ∧ T x := fun w w' hw hb => ⟨h w w' hw.1 hb, k w w' hw.2 hb⟩
theorem ups_below {B : Nat} {w : World} (hB : B ≤ w.heap.size) : Ups fun x => Below B w x := fun _ _ hx hb => hx.trans (hb.mono (Nat.le_trans hB hx.size))
theorem ups_block (k : Nat) (o : Obj) : Ups fun x => x.heap[k]? = some o := fun w w' hw hb => by
  simp only at hw ⊢
  have hk : k < w.heap.size := by
    rcases Nat.lt_or_ge k w.heap.size with h | h
    · exact h
    · rw [Array.getElem?_eq_none h] at hw; cases hw
  rw [hb.block k hk]; exact hw

/-! The moves of a walk. -/
/-- It may come up now, and nobody who could come before it touches its temporaries. -/
def okay (md : Region.Mode) (ops : Array Oper) (listed : Array Bool) (i : Nat) : Bool := Region.noSelect ops && (Region.free md ops listed i && (Region.ready md ops listed).contains i)
theorem okay_spec {listed : Array Bool} {i : Nat} (h : okay md ops listed i = true) : Region.noSelect ops = true ∧ Region.free md ops listed i = true ∧ (Region.ready md ops listed).contains i = true := by
  unfold okay at h
  rw [Bool.and_eq_true, Bool.and_eq_true] at h
  exact h
theorem put_some (l : List Value) (ds : List Deferred) (d : Nat) (v : Value) : Act.put ⟨l.toArray, ds⟩ (some d) v = ⟨(l.set d v).toArray, ds⟩ := by simp [Act.put]
theorem take_val {i d : Nat} {oi : Oper} {v : Value} {n : Nat} {listed : Array Bool} {S : World → Prop} {l : List Value} {ds : List Deferred} (hU : Ups S) (hi : ops[i]? = some oi) (hd : oi.dst = some d)
    (hk : okay md ops listed i = true)
    (hQ : ∀ c a w, Q (.panic c) (a.put (some d) v) w → Q (.panic c) a w) (hw : Region.wanted oi (yielded ops l.toArray) = true)
    (hv : ∀ w, S w → (execOp (Act.mk l.toArray ds).eval oi).run P w = .ok (.value v) w)
    (h : Any P md ops Q n (listed.setIfInBounds i true) S ⟨(l.set d v).toArray, ds⟩) : Any P md ops Q (n + 1) listed S ⟨l.toArray, ds⟩ :=
  any_first (a := ⟨l.toArray, ds⟩) hi (Region.noSelect_spec (okay_spec hk).1) (by rw [hd]; exact hQ) n listed S (Region.free_spec hi (okay_spec hk).2.1) (by simpa using (okay_spec hk).2.2) hU ⟨rfl, hw⟩ (fun _ w hS => .inl ⟨w, hv w hS, Below.refl _ _⟩) (fun h => by cases h) (by rw [hd, put_some]; exact h)

theorem take_no {i d : Nat} {oi : Oper} {n : Nat} {listed : Array Bool} {S : World → Prop} {l : List Value} {ds : List Deferred} (hU : Ups S) (hi : ops[i]? = some oi) (hd : oi.dst = some d)
    (hk : okay md ops listed i = true)
    (hQ : ∀ c a w, Q (.panic c) (a.put (some d) undef) w → Q (.panic c) a w) (hw : Region.wanted oi (yielded ops l.toArray) = false)
    (h : Any P md ops Q n (listed.setIfInBounds i true) S ⟨(l.set d undef).toArray, ds⟩) : Any P md ops Q (n + 1) listed S ⟨l.toArray, ds⟩ :=
  any_first (a := ⟨l.toArray, ds⟩) (E := execOp (Act.mk l.toArray ds).eval oi) hi (Region.noSelect_spec (okay_spec hk).1) (by rw [hd]; exact hQ) n listed S (Region.free_spec hi (okay_spec hk).2.1) (by simpa using (okay_spec hk).2.2) hU ⟨rfl, hw⟩ (fun h => by cases h) (fun _ => rfl) (by rw [hd, put_some]; exact h)

theorem take_call {i d : Nat} {oi : Oper} {v : Value} {f : FuncId} {args : Array Value} {n : Nat} {listed : Array Bool} {S : World → Prop} {l : List Value} {ds : List Deferred} (hU : Ups S) (hi : ops[i]? = some oi) (hd : oi.dst = some d)
    (hk : okay md ops listed i = true)
    (hQ : ∀ c a w, Q (.panic c) (a.put (some d) v) w → Q (.panic c) a w) (hw : Region.wanted oi (yielded ops l.toArray) = true)
    (he : ∀ w, S w → (execOp (Act.mk l.toArray ds).eval oi).run P w = .ok (.enter f args) w)
    (hc : ∀ w, S w → Calls P f args w fun e w' => e = .returned v ∧ Below w.heap.size w w')
    (h : Any P md ops Q n (listed.setIfInBounds i true) S ⟨(l.set d v).toArray, ds⟩) : Any P md ops Q (n + 1) listed S ⟨l.toArray, ds⟩ :=
  any_first (a := ⟨l.toArray, ds⟩) hi (Region.noSelect_spec (okay_spec hk).1) (by rw [hd]; exact hQ) n listed S (Region.free_spec hi (okay_spec hk).2.1) (by simpa using (okay_spec hk).2.2) hU ⟨rfl, hw⟩ (fun _ w hS => .inr ⟨f, args, w, he w hS, hc w hS⟩) (fun h => by cases h) (by rw [hd, put_some]; exact h)

/-- One operation that may come up next: what it leaves, and a smaller S. -/
def Step (P : Program) (md : Region.Mode) (ops : Array Oper) (Q : Exit → Act → World → Prop) (n : Nat) (listed : Array Bool) (S : World → Prop) (a : Act) (i : Nat) : Prop :=
  ∀ w, S w → wpOp P ops Q i (fun a' w' => ∃ T : World → Prop, Ups T ∧ (∀ x, T x → S x) ∧ T w' ∧ Any P md ops Q n (listed.setIfInBounds i true) T a') a w

theorem take_all {rs : List Nat} {n : Nat} {listed : Array Bool} {S : World → Prop} {a : Act} (hr : Region.ready md ops listed = rs) (hne : rs ≠ [])
    (h : ∀ i ∈ rs, Step P md ops Q n listed S a i) : Any P md ops Q (n + 1) listed S a :=
  ⟨fun h0 => absurd (hr ▸ h0) hne, hr ▸ h⟩
theorem take_one {i : Nat} {n : Nat} {listed : Array Bool} {S : World → Prop} {a : Act} (hr : Region.ready md ops listed = [i])
    (h : Step P md ops Q n listed S a i) : Any P md ops Q (n + 1) listed S a :=
  take_all hr (by simp) fun j hj => by simp at hj; subst hj; exact h
theorem take_two {i j : Nat} {n : Nat} {listed : Array Bool} {S : World → Prop} {a : Act} (hr : Region.ready md ops listed = [i, j])
    (h : Step P md ops Q n listed S a i) (h' : Step P md ops Q n listed S a j) : Any P md ops Q (n + 1) listed S a :=
  take_all hr (by simp) fun k hk => by
    simp at hk
    rcases hk with rfl | rfl
    · exact h
    · exact h'

/-- It makes a block. -/
def New (S : World → Prop) (k : Nat) (o : Obj) (x : World) : Prop := S x ∧ x.heap[k]? = some o
theorem New.ups {S : World → Prop} (h : Ups S) (k : Nat) (o : Obj) : Ups (New S k o) := ups_and h (ups_block k o)
theorem step_make {i d : Nat} {oi : Oper} {n : Nat} {listed : Array Bool} {S : World → Prop} {l : List Value} {ds : List Deferred} (hU : Ups S) (hi : ops[i]? = some oi) (hd : oi.dst = some d)
    (hw : Region.wanted oi (yielded ops l.toArray) = true) (o : Obj) (v : Nat → Value)
    (hv : ∀ w, S w → (execOp (Act.mk l.toArray ds).eval oi).run P w = .ok (.value (v w.heap.size)) (w.alloc o))
    (h : ∀ k w, S w → Hid (k = w.heap.size) → Any P md ops Q n (listed.setIfInBounds i true) (New S k o) ⟨(l.set d (v k)).toArray, ds⟩) : Step P md ops Q n listed S ⟨l.toArray, ds⟩ i := by
  intro w hS
  unfold wpOp
  simp only [hi, hw, if_true]
  refine .inl ?_
  unfold Oper.wp
  rw [hv w hS, Oper.upon_value, hd, put_some]
  exact ⟨New S w.heap.size o, New.ups hU _ _, fun _ h => h.1, ⟨hU _ _ hS ((Below.refl _ _).alloc (Nat.le_refl _) o), heap_new _ _⟩, h _ w hS rfl⟩

/-- It makes a block of which R is known. -/
theorem step_make_as {i d : Nat} {oi : Oper} {n : Nat} {listed : Array Bool} {S : World → Prop} {l : List Value} {ds : List Deferred} (hU : Ups S) (hi : ops[i]? = some oi) (hd : oi.dst = some d)
    (hw : Region.wanted oi (yielded ops l.toArray) = true) (o : Obj) (v : Nat → Value) (R : Nat → World → Prop) (hR : ∀ k, Ups (R k)) (hN : ∀ w, S w → R w.heap.size (w.alloc o))
    (hv : ∀ w, S w → (execOp (Act.mk l.toArray ds).eval oi).run P w = .ok (.value (v w.heap.size)) (w.alloc o))
    (h : ∀ k, Any P md ops Q n (listed.setIfInBounds i true) (fun x => S x ∧ R k x) ⟨(l.set d (v k)).toArray, ds⟩) : Step P md ops Q n listed S ⟨l.toArray, ds⟩ i := by
  intro w hS
  unfold wpOp
  simp only [hi, hw, if_true]
  refine .inl ?_
  unfold Oper.wp
  rw [hv w hS, Oper.upon_value, hd, put_some]
  exact ⟨fun x => S x ∧ R w.heap.size x, ups_and hU (hR _), fun _ h => h.1, ⟨hU _ _ hS ((Below.refl _ _).alloc (Nat.le_refl _) o), hN w hS⟩, h _⟩

/-- It writes into what nobody knows. -/
theorem step_store {i : Nat} {oi : Oper} {n : Nat} {listed : Array Bool} {S : World → Prop} {a : Act} (T : World → Prop) (hU : Ups T) (hTS : ∀ x, T x → S x) (hi : ops[i]? = some oi) (hd : oi.dst = none)
    (hw : Region.wanted oi (yielded ops a.tmps) = true) (g : World → World)
    (hv : ∀ w, S w → (execOp a.eval oi).run P w = .ok .skip (g w)) (hT : ∀ w, S w → T (g w))
    (h : Any P md ops Q n (listed.setIfInBounds i true) T a) : Step P md ops Q n listed S a i := by
  intro w hS
  unfold wpOp
  simp only [hi, hw, if_true]
  refine .inl ?_
  unfold Oper.wp
  rw [hv w hS, Oper.upon_skip, hd]
  exact ⟨T, hU, hTS, hT w hS, h⟩

/-- All have come up. -/
theorem take_done {listed : Array Bool} {S : World → Prop} {a : Act} (hr : Region.ready md ops listed = []) (h : ∀ w, S w → Q .normal a w) :
    ∀ n, Any P md ops Q n listed S a
  | 0 => ⟨hr, h⟩
  | _ + 1 => ⟨fun _ => h, by rw [hr]; simp⟩

/-- The beginning. -/
theorem up_begin {id : Nat} {a : Act} {w : World} (S : World → Prop) (n : Nat) (hn : ops.size = n) (hm : P.follows .mixedOrders = true) (hS : S w.drew)
    (h : Any P .any ops Q n (Array.replicate n false) S a) : (Code.region id ops true).wp P Q a w := by
  subst hn
  exact wp_region_any hm (any_sound _ _ S a h w.drew hS)

/-! A region whose order is the text's, in the same words. -/
structure Lin (P : Program) (ops : Array Oper) (Q : Exit → Act → World → Prop) (rest : List Nat) (S : World → Prop) (a : Act) : Prop where
  run : ∀ w, S w → wpOps P ops Q rest a w
theorem lin_val {i d : Nat} {oi : Oper} {v : Value} {rest : List Nat} {S : World → Prop} {l : List Value} {ds : List Deferred} (hi : ops[i]? = some oi) (hd : oi.dst = some d)
    (hw : Region.wanted oi (yielded ops l.toArray) = true)
    (hv : ∀ w, S w → (execOp (Act.mk l.toArray ds).eval oi).run P w = .ok (.value v) w)
    (h : Lin P ops Q rest S ⟨(l.set d v).toArray, ds⟩) : Lin P ops Q (i :: rest) S ⟨l.toArray, ds⟩ := ⟨fun w hS => by
  rw [wpOps_cons]
  unfold wpOp
  simp only [hi, hw, if_true]
  refine .inl ?_
  unfold Oper.wp
  rw [hv w hS, Oper.upon_value, hd, put_some]
  exact h.run w hS⟩
theorem lin_no {i d : Nat} {oi : Oper} {rest : List Nat} {S : World → Prop} {l : List Value} {ds : List Deferred} (hi : ops[i]? = some oi) (hd : oi.dst = some d)
    (hw : Region.wanted oi (yielded ops l.toArray) = false)
    (h : Lin P ops Q rest S ⟨(l.set d undef).toArray, ds⟩) : Lin P ops Q (i :: rest) S ⟨l.toArray, ds⟩ := ⟨fun w hS => by
  rw [wpOps_cons]
  unfold wpOp
  simp only [hi, hw, Bool.false_eq_true, if_false]
  rw [hd, put_some]
  exact h.run w hS⟩
theorem lin_call {i d : Nat} {oi : Oper} {v : Value} {f : FuncId} {args : Array Value} {rest : List Nat} {S : World → Prop} {l : List Value} {ds : List Deferred} (hU : Ups S) (hi : ops[i]? = some oi) (hd : oi.dst = some d)
    (hw : Region.wanted oi (yielded ops l.toArray) = true)
    (he : ∀ w, S w → (execOp (Act.mk l.toArray ds).eval oi).run P w = .ok (.enter f args) w)
    (hc : ∀ w, S w → Calls P f args w fun e w' => e = .returned v ∧ Below w.heap.size w w')
    (h : Lin P ops Q rest S ⟨(l.set d v).toArray, ds⟩) : Lin P ops Q (i :: rest) S ⟨l.toArray, ds⟩ := ⟨fun w hS => by
  rw [wpOps_cons]
  unfold wpOp
  simp only [hi, hw, if_true]
  refine .inl ?_
  unfold Oper.wp
  rw [he w hS, Oper.upon_enter]
  refine Calls.mono (hc w hS) fun e w' hr => ?_
  obtain ⟨rfl, hb⟩ := hr
  show wpOps P ops Q rest (Act.put ⟨l.toArray, ds⟩ oi.dst v) w'
  rw [hd, put_some]
  exact h.run w' (hU w w' hS hb)⟩
theorem lin_make {i d : Nat} {oi : Oper} {rest : List Nat} {S : World → Prop} {l : List Value} {ds : List Deferred} (hU : Ups S) (hi : ops[i]? = some oi) (hd : oi.dst = some d)
    (hw : Region.wanted oi (yielded ops l.toArray) = true) (o : Obj) (v : Nat → Value)
    (hv : ∀ w, S w → (execOp (Act.mk l.toArray ds).eval oi).run P w = .ok (.value (v w.heap.size)) (w.alloc o))
    (h : ∀ k w, S w → Hid (k = w.heap.size) → Lin P ops Q rest (New S k o) ⟨(l.set d (v k)).toArray, ds⟩) : Lin P ops Q (i :: rest) S ⟨l.toArray, ds⟩ := ⟨fun w hS => by
  rw [wpOps_cons]
  unfold wpOp
  simp only [hi, hw, if_true]
  refine .inl ?_
  unfold Oper.wp
  rw [hv w hS, Oper.upon_value, hd, put_some]
  exact (h _ w hS rfl).run _ ⟨hU _ _ hS ((Below.refl _ _).alloc (Nat.le_refl _) o), heap_new _ _⟩⟩
theorem lin_make_as {i d : Nat} {oi : Oper} {rest : List Nat} {S : World → Prop} {l : List Value} {ds : List Deferred} (hU : Ups S) (hi : ops[i]? = some oi) (hd : oi.dst = some d)
    (hw : Region.wanted oi (yielded ops l.toArray) = true) (o : Obj) (v : Nat → Value) (R : Nat → World → Prop) (hN : ∀ w, S w → R w.heap.size (w.alloc o))
    (hv : ∀ w, S w → (execOp (Act.mk l.toArray ds).eval oi).run P w = .ok (.value (v w.heap.size)) (w.alloc o))
    (h : ∀ k, Lin P ops Q rest (fun x => S x ∧ R k x) ⟨(l.set d (v k)).toArray, ds⟩) : Lin P ops Q (i :: rest) S ⟨l.toArray, ds⟩ := ⟨fun w hS => by
  rw [wpOps_cons]
  unfold wpOp
  simp only [hi, hw, if_true]
  refine .inl ?_
  unfold Oper.wp
  rw [hv w hS, Oper.upon_value, hd, put_some]
  exact (h _).run _ ⟨hU _ _ hS ((Below.refl _ _).alloc (Nat.le_refl _) o), hN w hS⟩⟩
theorem lin_store {i : Nat} {oi : Oper} {rest : List Nat} {S : World → Prop} {a : Act} (T : World → Prop) (hi : ops[i]? = some oi) (hd : oi.dst = none)
    (hw : Region.wanted oi (yielded ops a.tmps) = true) (g : World → World)
    (hv : ∀ w, S w → (execOp a.eval oi).run P w = .ok .skip (g w)) (hT : ∀ w, S w → T (g w))
    (h : Lin P ops Q rest T a) : Lin P ops Q (i :: rest) S a := ⟨fun w hS => by
  rw [wpOps_cons]
  unfold wpOp
  simp only [hi, hw, if_true]
  refine .inl ?_
  unfold Oper.wp
  rw [hv w hS, Oper.upon_skip, hd]
  exact h.run _ (hT w hS)⟩
theorem lin_done {S : World → Prop} {a : Act} (h : ∀ w, S w → Q .normal a w) : Lin P ops Q [] S a := ⟨h⟩
theorem lin_begin {id : Nat} {a : Act} {w : World} (S : World → Prop) {rest : List Nat} (hr : List.range ops.size = rest) (hS : S w)
    (h : Lin P ops Q rest S a) : (Code.region id ops false).wp P Q a w := by
  subst hr
  exact wp_region (h.run w hS)

end
end Go.Proofs.YtejcjjimhaokfaaDoor.Up
