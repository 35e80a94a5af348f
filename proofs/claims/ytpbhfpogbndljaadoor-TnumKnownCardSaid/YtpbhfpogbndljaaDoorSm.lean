/-
  The moves of a walk in few words (what stays the same in each is found by itself), and stores of several cells at once: for walks that are written by program (tools/sym.py).
-/
import Derived.Test.YtpbhfpogbndljaaDoorUw
import Derived.Test.YtpbhfpogbndljaaDoorIf
namespace Go.Proofs.YtpbhfpogbndljaaDoor.Up
open Go.RowKit
theorem sA {α : Type} (x y : α) (l : List α) (n : Nat) : (x :: l).set (n + 1) y = x :: l.set n y := rfl
theorem sB {α : Type} (x y : α) (l : List α) : (x :: l).set 0 y = y :: l := rfl
theorem sC {α : Type} (x : α) (l m : List α) : (x :: l) ++ m = x :: (l ++ m) := rfl
theorem sD {α : Type} (m : List α) : [] ++ m = m := rfl
/-! Values in few words. -/
def vU (x : P) : Value := .agg #[.int .u64 (Num.tn x.lo), .int .u64 (Num.tn x.hi)]
def vI (x : P) : Value := .agg #[.int .i64 (ti x.lo), .int .i64 (ti x.hi)]
def vS (x : Sc) : Value := .agg #[.int .u64 (Num.tn x.t.lo), .int .u64 (Num.tn x.t.hi), .int .u64 (Num.tn x.u.lo), .int .u64 (Num.tn x.u.hi), .int .i64 (ti x.s.lo), .int .i64 (ti x.s.hi)]
def cU (x : P) : List Value := [.int .u64 (Num.tn x.lo), .int .u64 (Num.tn x.hi)]
def cI (x : P) : List Value := [.int .i64 (ti x.lo), .int .i64 (ti x.hi)]
def cS (x : Sc) : List Value := [.int .u64 (Num.tn x.t.lo), .int .u64 (Num.tn x.t.hi), .int .u64 (Num.tn x.u.lo), .int .u64 (Num.tn x.u.hi), .int .i64 (ti x.s.lo), .int .i64 (ti x.s.hi)]
/-- Cells from q on, written one behind the other. -/
def setM : List (Option Value) → Nat → List Value → List (Option Value)
  | cs, _, [] => cs
  | cs, q, v :: vs => setM (cs.set q (some v)) (q + 1) vs
def noneM : List (Option Value) → Nat → Nat → List (Option Value)
  | cs, _, 0 => cs
  | cs, q, n + 1 => noneM (cs.set q none) (q + 1) n
def noneAt : List (Option Value) → Nat → List Value → Bool
  | _, _, [] => true
  | cs, q, v :: vs => (match cs[q]? with | some none => true | _ => false) && noneAt (cs.set q (some v)) (q + 1) vs
def putW : World → Nat → Nat → List Value → World
  | x, _, _, [] => x
  | x, k, q, v :: vs => putW (x.setCell ⟨k, q, none⟩ v) k (q + 1) vs
def Blk.putC (b : Blk) (q : Nat) (vs : List Value) : Blk := ⟨b.k, setM b.cs q vs, b.t⟩
def Blk.dropC (b : Blk) (q n : Nat) : Blk := ⟨b.k, noneM b.cs q n, b.t⟩
theorem lessC_trans : ∀ {a b c : List (Option Value)}, lessC a b → lessC b c → lessC a c
  | [], [], [], _, _ => trivial
  | x :: a, y :: b, z :: c, h, k => by
    refine ⟨?_, lessC_trans h.2 k.2⟩
    rcases k.1 with e | e
    · exact .inl e
    · rw [e]; exact h.1
  | [], [], _ :: _, _, k => k.elim
  | [], _ :: _, _, h, _ => h.elim
  | _ :: _, [], _, h, _ => h.elim
  | _ :: _, _ :: _, [], _, k => k.elim
theorem lessC_some : ∀ (cs : List (Option Value)) (q : Nat) (v : Value), cs[q]? = some none → lessC (cs.set q (some v)) cs
  | [], _, _, h => by cases h
  | a :: cs, 0, v, h => by
    simp only [List.getElem?_cons_zero, Option.some.injEq] at h
    subst h
    exact ⟨.inl rfl, lessC_refl cs⟩
  | a :: cs, q + 1, v, h => ⟨.inr rfl, lessC_some cs q v (by simpa using h)⟩
theorem lessC_none : ∀ (cs : List (Option Value)) (q : Nat), lessC cs (cs.set q none)
  | [], _ => trivial
  | _ :: cs, 0 => ⟨.inl rfl, lessC_refl cs⟩
  | _ :: cs, q + 1 => ⟨.inr rfl, lessC_none cs q⟩
theorem lessC_setM : ∀ (vs : List Value) (cs : List (Option Value)) (q : Nat), noneAt cs q vs = true → lessC (setM cs q vs) cs
  | [], cs, _, _ => lessC_refl cs
  | v :: vs, cs, q, h => by
    unfold noneAt at h
    rw [Bool.and_eq_true] at h
    refine lessC_trans (lessC_setM vs _ _ h.2) (lessC_some cs q v ?_)
    have h1 := h.1
    split at h1
    · assumption
    · cases h1
theorem lessC_noneM : ∀ (n : Nat) (cs : List (Option Value)) (q : Nat), lessC cs (noneM cs q n)
  | 0, cs, _ => lessC_refl cs
  | n + 1, cs, q => lessC_trans (lessC_none cs q) (lessC_noneM n _ _)
theorem less_set : ∀ {l : List Blk} {j : Nat} {b c : Blk}, l[j]? = some b → c.k = b.k → c.t = b.t → lessC c.cs b.cs → less (l.set j c) l
  | [], _, _, _, h, _, _, _ => by cases h
  | a :: l, 0, b, c, h, hk, ht, hc => by
    simp only [List.getElem?_cons_zero, Option.some.injEq] at h
    subst h
    exact less_cons hk ht hc (less_refl l)
  | a :: l, j + 1, b, c, h, hk, ht, hc => less_cons rfl rfl (lessC_refl _) (less_set (by simpa using h) hk ht hc)
theorem set_less : ∀ {l : List Blk} {j : Nat} {b c : Blk}, l[j]? = some b → b.k = c.k → b.t = c.t → lessC b.cs c.cs → less l (l.set j c)
  | [], _, _, _, h, _, _, _ => by cases h
  | a :: l, 0, b, c, h, hk, ht, hc => by
    simp only [List.getElem?_cons_zero, Option.some.injEq] at h
    subst h
    exact less_cons hk ht hc (less_refl l)
  | a :: l, j + 1, b, c, h, hk, ht, hc => less_cons rfl rfl (lessC_refl _) (set_less (by simpa using h) hk ht hc)
theorem St.forget {w0 : World} {l : List Blk} {x : World} (h : St w0 l x) (j q n : Nat) {b : Blk} (hj : l[j]? = some b) : St w0 (l.set j (b.dropC q n)) x :=
  h.less (set_less hj rfl rfl (lessC_noneM n _ _))
theorem set_same {α : Type} : ∀ {l : List α} {j : Nat} {b : α}, l[j]? = some b → l.set j b = l
  | [], _, _, h => by cases h
  | a :: l, 0, b, h => by simp only [List.getElem?_cons_zero, Option.some.injEq] at h; rw [h]; rfl
  | a :: l, j + 1, b, h => by rw [sA, set_same (by simpa using h)]
theorem St.putM {w0 : World} {j : Nat} : ∀ (vs : List Value) (q : Nat) {l : List Blk} {x : World} {b : Blk}, St w0 l x → l[j]? = some b → St w0 (l.set j (b.putC q vs)) (putW x b.k q vs)
  | [], q, l, x, b, h, hj => by
    show St w0 (l.set j b) x
    rw [set_same hj]; exact h
  | v :: vs, q, l, x, b, h, hj => by
    have h1 := h.put j q v hj
    have hlt : j < l.length := by
      rcases Nat.lt_or_ge j l.length with h' | h'
      · exact h'
      · rw [List.getElem?_eq_none h'] at hj; cases hj
    have h2 := St.putM vs (q + 1) (j := j) h1 (b := { b with cs := b.cs.set q (some v) }) (by simp [hlt])
    rw [List.set_set] at h2
    exact h2
theorem St.at1 {w0 : World} {l : List Blk} {x : World} (h : St w0 l x) (j i : Nat) {b : Blk} (hj : l[j]? = some b) (hi : i < b.cs.length := by simp) : ∃ v, x.cell? ⟨b.k, i, none⟩ = some v ∧ x.frozen? ⟨b.k, i, none⟩ = false := by
  obtain ⟨v, hv⟩ := h.has j i hj hi
  exact ⟨v, hv, h.soft j i hj⟩
theorem St.two {w0 : World} {l : List Blk} {x : World} (h : St w0 l x) (j i : Nat) {b : Blk} {v0 v1 : Value} {m : List (Option Value)} (hj : l[j]? = some b) (hi : b.cs.drop i = some v0 :: some v1 :: m) :
    x.cell? ⟨b.k, i, none⟩ = some v0 ∧ x.cell? ⟨b.k, i + 1, none⟩ = some v1 := by
  have e : ∀ q, b.cs[i + q]? = (some v0 :: some v1 :: m)[q]? := fun q => by rw [← hi, List.getElem?_drop]
  exact ⟨h.load j i hj (e 0), h.load j (i + 1) hj (e 1)⟩
theorem St.six {w0 : World} {l : List Blk} {x : World} (h : St w0 l x) (j i : Nat) {b : Blk} {v0 v1 v2 v3 v4 v5 : Value} {m : List (Option Value)} (hj : l[j]? = some b) (hi : b.cs.drop i = some v0 :: some v1 :: some v2 :: some v3 :: some v4 :: some v5 :: m) :
    x.cell? ⟨b.k, i, none⟩ = some v0 ∧ x.cell? ⟨b.k, i + 1, none⟩ = some v1 ∧ x.cell? ⟨b.k, i + 2, none⟩ = some v2 ∧ x.cell? ⟨b.k, i + 3, none⟩ = some v3 ∧ x.cell? ⟨b.k, i + 4, none⟩ = some v4 ∧ x.cell? ⟨b.k, i + 5, none⟩ = some v5 := by
  have e : ∀ q, b.cs[i + q]? = (some v0 :: some v1 :: some v2 :: some v3 :: some v4 :: some v5 :: m)[q]? := fun q => by rw [← hi, List.getElem?_drop]
  exact ⟨h.load j i hj (e 0), h.load j (i + 1) hj (e 1), h.load j (i + 2) hj (e 2), h.load j (i + 3) hj (e 3), h.load j (i + 4) hj (e 4), h.load j (i + 5) hj (e 5)⟩
/-- A cell that can be written. -/
def Soft (x : World) (k i : Nat) : Prop := ∃ v, x.cell? ⟨k, i, none⟩ = some v ∧ x.frozen? ⟨k, i, none⟩ = false
theorem St.at2 {w0 : World} {l : List Blk} {x : World} (h : St w0 l x) (j i : Nat) {b : Blk} (hj : l[j]? = some b) (hi : i + 1 < b.cs.length := by simp) : Soft x b.k i ∧ Soft x b.k (i + 1) :=
  ⟨h.at1 j i hj (by omega), h.at1 j (i + 1) hj (by omega)⟩
theorem St.at6 {w0 : World} {l : List Blk} {x : World} (h : St w0 l x) (j i : Nat) {b : Blk} (hj : l[j]? = some b) (hi : i + 5 < b.cs.length := by simp) : Soft x b.k i ∧ Soft x b.k (i + 1) ∧ Soft x b.k (i + 2) ∧ Soft x b.k (i + 3) ∧ Soft x b.k (i + 4) ∧ Soft x b.k (i + 5) :=
  ⟨h.at1 j i hj (by omega), h.at1 j (i + 1) hj (by omega), h.at1 j (i + 2) hj (by omega), h.at1 j (i + 3) hj (by omega), h.at1 j (i + 4) hj (by omega), h.at1 j (i + 5) hj (by omega)⟩
section
variable {P : Program} {ops : Array Oper} {Q : Exit → Act → World → Prop} {md : Region.Mode} {n : Nat} {listed : Array Bool} {w0 : World} {bs : List Blk} {l : List Value} {ds : List Deferred} {oi : Oper} {d : Nat} {rest : List Nat}
theorem tv (i : Nat) (v : Value) (hi : ops[i]? = some oi) (hd : oi.dst = some d)
    (hv : ∀ x, St w0 bs x → (execOp (Act.mk l.toArray ds).eval oi).run P x = .ok (.value v) x)
    (h : Any P md ops Q n (listed.setIfInBounds i true) (St w0 bs) ⟨(l.set d v).toArray, ds⟩)
    (hk : okay md ops listed i = true := by kernel_rfl) (hQ : ∀ c a w, Q (.panic c) (a.put (some d) v) w → Q (.panic c) a w := by exact fun _ _ _ h => h) (hw : Region.wanted oi (yielded ops l.toArray) = true := by rfl) :
    Any P md ops Q (n + 1) listed (St w0 bs) ⟨l.toArray, ds⟩ := take_val (st_ups _ _) hi hd hk hQ hw hv h
theorem run_move {k : Nat} {v : Value} {x : World} (ho : oi.op = .move (.tmp k)) (hk : l[k]? = some v) : (execOp (Act.mk l.toArray ds).eval oi).run P x = .ok (.value v) x := by
  obtain ⟨dst, op, ty, ps, af, gu⟩ := oi
  simp only at ho
  subst ho
  have e : (Act.mk l.toArray ds).eval (.tmp k) = v := by simp [Act.eval, hk]
  simp only [execOp, e]
  rfl
theorem run_assign {k : Nat} {v : Value} {x : World} (ho : oi.op = .assign (.tmp k)) (hk : l[k]? = some v) : (execOp (Act.mk l.toArray ds).eval oi).run P x = .ok (.value v) x := by
  obtain ⟨dst, op, ty, ps, af, gu⟩ := oi
  simp only at ho
  subst ho
  have e : (Act.mk l.toArray ds).eval (.tmp k) = v := by simp [Act.eval, hk]
  simp only [execOp, e]
  rfl
theorem tm (i k : Nat) {v : Value} (hi : ops[i]? = some oi) (hd : oi.dst = some d) (hk' : l[k]? = some v) (ho : oi.op = .move (.tmp k))
    (h : Any P md ops Q n (listed.setIfInBounds i true) (St w0 bs) ⟨(l.set d v).toArray, ds⟩)
    (hk : okay md ops listed i = true := by kernel_rfl) (hQ : ∀ c a w, Q (.panic c) (a.put (some d) v) w → Q (.panic c) a w := by exact fun _ _ _ h => h) (hw : Region.wanted oi (yielded ops l.toArray) = true := by rfl) :
    Any P md ops Q (n + 1) listed (St w0 bs) ⟨l.toArray, ds⟩ := take_val (st_ups _ _) hi hd hk hQ hw (fun _ _ => run_move ho hk') h
theorem ta (i k : Nat) {v : Value} (hi : ops[i]? = some oi) (hd : oi.dst = some d) (hk' : l[k]? = some v) (ho : oi.op = .assign (.tmp k))
    (h : Any P md ops Q n (listed.setIfInBounds i true) (St w0 bs) ⟨(l.set d v).toArray, ds⟩)
    (hk : okay md ops listed i = true := by kernel_rfl) (hQ : ∀ c a w, Q (.panic c) (a.put (some d) v) w → Q (.panic c) a w := by exact fun _ _ _ h => h) (hw : Region.wanted oi (yielded ops l.toArray) = true := by rfl) :
    Any P md ops Q (n + 1) listed (St w0 bs) ⟨l.toArray, ds⟩ := take_val (st_ups _ _) hi hd hk hQ hw (fun _ _ => run_assign ho hk') h
theorem lm (i k : Nat) {v : Value} (hi : ops[i]? = some oi) (hd : oi.dst = some d) (hk : l[k]? = some v) (ho : oi.op = .move (.tmp k))
    (h : Lin P ops Q rest (St w0 bs) ⟨(l.set d v).toArray, ds⟩) (hw : Region.wanted oi (yielded ops l.toArray) = true := by rfl) :
    Lin P ops Q (i :: rest) (St w0 bs) ⟨l.toArray, ds⟩ := lin_val hi hd hw (fun _ _ => run_move ho hk) h
theorem la (i k : Nat) {v : Value} (hi : ops[i]? = some oi) (hd : oi.dst = some d) (hk : l[k]? = some v) (ho : oi.op = .assign (.tmp k))
    (h : Lin P ops Q rest (St w0 bs) ⟨(l.set d v).toArray, ds⟩) (hw : Region.wanted oi (yielded ops l.toArray) = true := by rfl) :
    Lin P ops Q (i :: rest) (St w0 bs) ⟨l.toArray, ds⟩ := lin_val hi hd hw (fun _ _ => run_assign ho hk) h
theorem tc (i : Nat) (f : FuncId) (args : Array Value) (v : Value) (hi : ops[i]? = some oi) (hd : oi.dst = some d)
    (hc : ∀ x, St w0 bs x → Calls P f args x fun e w' => e = .returned v ∧ Below x.heap.size x w')
    (h : Any P md ops Q n (listed.setIfInBounds i true) (St w0 bs) ⟨(l.set d v).toArray, ds⟩)
    (hk : okay md ops listed i = true := by kernel_rfl) (hQ : ∀ c a w, Q (.panic c) (a.put (some d) v) w → Q (.panic c) a w := by exact fun _ _ _ h => h) (hw : Region.wanted oi (yielded ops l.toArray) = true := by rfl)
    (he : ∀ x, St w0 bs x → (execOp (Act.mk l.toArray ds).eval oi).run P x = .ok (.enter f args) x := by intro x hx; kernel_rfl) :
    Any P md ops Q (n + 1) listed (St w0 bs) ⟨l.toArray, ds⟩ := take_call (st_ups _ _) hi hd hk hQ hw he hc h
theorem ts (i j q : Nat) (vs : List Value) {a : Act} {b : Blk} (hi : ops[i]? = some oi) (hd : oi.dst = none) (hj : bs[j]? = some b)
    (hv : ∀ x, St w0 bs x → (execOp a.eval oi).run P x = .ok .skip (putW x b.k q vs))
    (h : Any P md ops Q n (listed.setIfInBounds i true) (St w0 (bs.set j (b.putC q vs))) a)
    (hn : noneAt b.cs q vs = true := by rfl) (hr : Region.ready md ops listed = [i] := by kernel_rfl) (hw : Region.wanted oi (yielded ops a.tmps) = true := by rfl) :
    Any P md ops Q (n + 1) listed (St w0 bs) a :=
  take_one hr (step_store (St w0 (bs.set j (b.putC q vs))) (st_ups _ _) (fun _ hx => hx.less (less_set hj rfl rfl (lessC_setM vs _ _ hn))) hi hd hw (fun x => putW x b.k q vs) hv (fun _ hx => hx.putM vs q hj) h)
theorem upb {id : Nat} {a : Act} {w : World} (k : Nat) (hS : St w0 bs w.drew) (hn : ops.size = k)
    (h : Any P .any ops Q k (Array.replicate k false) (St w0 bs) a) (hm : P.follows .mixedOrders = true := by kernel_rfl) : (Code.region id ops true).wp P Q a w := up_begin (St w0 bs) k hn hm hS h
theorem lv (i : Nat) (v : Value) (hi : ops[i]? = some oi) (hd : oi.dst = some d)
    (hv : ∀ x, St w0 bs x → (execOp (Act.mk l.toArray ds).eval oi).run P x = .ok (.value v) x)
    (h : Lin P ops Q rest (St w0 bs) ⟨(l.set d v).toArray, ds⟩)
    (hw : Region.wanted oi (yielded ops l.toArray) = true := by rfl) :
    Lin P ops Q (i :: rest) (St w0 bs) ⟨l.toArray, ds⟩ := lin_val hi hd hw hv h
theorem lc (i : Nat) (f : FuncId) (args : Array Value) (v : Value) (hi : ops[i]? = some oi) (hd : oi.dst = some d)
    (hc : ∀ x, St w0 bs x → Calls P f args x fun e w' => e = .returned v ∧ Below x.heap.size x w')
    (h : Lin P ops Q rest (St w0 bs) ⟨(l.set d v).toArray, ds⟩)
    (hw : Region.wanted oi (yielded ops l.toArray) = true := by rfl)
    (he : ∀ x, St w0 bs x → (execOp (Act.mk l.toArray ds).eval oi).run P x = .ok (.enter f args) x := by intro x hx; kernel_rfl) :
    Lin P ops Q (i :: rest) (St w0 bs) ⟨l.toArray, ds⟩ := lin_call (st_ups _ _) hi hd hw he hc h
theorem ls (i j q : Nat) (vs : List Value) {a : Act} {b : Blk} (hi : ops[i]? = some oi) (hd : oi.dst = none) (hj : bs[j]? = some b)
    (hv : ∀ x, St w0 bs x → (execOp a.eval oi).run P x = .ok .skip (putW x b.k q vs))
    (h : Lin P ops Q rest (St w0 (bs.set j (b.putC q vs))) a)
    (hw : Region.wanted oi (yielded ops a.tmps) = true := by rfl) :
    Lin P ops Q (i :: rest) (St w0 bs) a := lin_store (St w0 (bs.set j (b.putC q vs))) hi hd hw (fun x => putW x b.k q vs) hv (fun _ hx => hx.putM vs q hj) h
theorem ld {a : Act} (h : ∀ w, Hid (St w0 bs w) → Q .normal a w) : Lin P ops Q [] (St w0 bs) a := lin_done h
theorem td {a : Act} (h : ∀ w, Hid (St w0 bs w) → Q .normal a w) (hr : Region.ready md ops listed = [] := by kernel_rfl) : Any P md ops Q n listed (St w0 bs) a := take_done hr h n
theorem wd {Wr : Nat → Bool} {a : Act} (h : ∀ w, Hid (St w0 bs w) → Q .normal a w) (hr : Region.ready md ops listed = [] := by kernel_rfl) : Anw P md ops Q Wr n listed (St w0 bs) a := wake_done hr h n
theorem lnb {id : Nat} {a : Act} {w : World} (hS : St w0 bs w) (hr : List.range ops.size = rest)
    (h : Lin P ops Q rest (St w0 bs) a) : (Code.region id ops false).wp P Q a w := lin_begin (St w0 bs) hr hS h
theorem wp_ {Wr : Nat → Bool} (i : Nat) (v : Value) (hi : ops[i]? = some oi) (hd : oi.dst = some d)
    (hv : ∀ x, True → (execOp (Act.mk l.toArray ds).eval oi).run P x = .ok (.value v) x)
    (h : Anw P md ops Q Wr n (listed.setIfInBounds i true) (St w0 bs) ⟨(l.set d v).toArray, ds⟩)
    (hk : okay md ops listed i = true := by kernel_rfl) (hWi : Wr i = false := by rfl) (hQ : ∀ c a w, Q (.panic c) (a.put (some d) v) w → Q (.panic c) a w := by exact fun _ _ _ h => h) (hw : Region.wanted oi (yielded ops l.toArray) = true := by rfl) :
    Anw P md ops Q Wr (n + 1) listed (St w0 bs) ⟨l.toArray, ds⟩ := wake_pure (st_ups _ _) hi hd hk hWi hQ hw hv h
theorem wv {Wr : Nat → Bool} (i : Nat) (v : Value) (hi : ops[i]? = some oi) (hd : oi.dst = some d)
    (hv : ∀ x, St w0 bs x → (execOp (Act.mk l.toArray ds).eval oi).run P x = .ok (.value v) x)
    (h : Anw P md ops Q Wr n (listed.setIfInBounds i true) (St w0 bs) ⟨(l.set d v).toArray, ds⟩)
    (hk : okay md ops listed i = true := by kernel_rfl) (hWi : Wr i = false := by rfl) (hB : behind md ops Wr i = true := by kernel_rfl) (hQ : ∀ c a w, Q (.panic c) (a.put (some d) v) w → Q (.panic c) a w := by exact fun _ _ _ h => h) (hw : Region.wanted oi (yielded ops l.toArray) = true := by rfl) :
    Anw P md ops Q Wr (n + 1) listed (St w0 bs) ⟨l.toArray, ds⟩ := wake_val (st_ups _ _) hi hd hk hWi hB hQ hw hv h
theorem wc {Wr : Nat → Bool} (i : Nat) (f : FuncId) (args : Array Value) (v : Value) (hi : ops[i]? = some oi) (hd : oi.dst = some d)
    (hc : ∀ x, St w0 bs x → Calls P f args x fun e w' => e = .returned v ∧ Below x.heap.size x w')
    (h : Anw P md ops Q Wr n (listed.setIfInBounds i true) (St w0 bs) ⟨(l.set d v).toArray, ds⟩)
    (hk : okay md ops listed i = true := by kernel_rfl) (hWi : Wr i = false := by rfl) (hB : behind md ops Wr i = true := by kernel_rfl) (hQ : ∀ c a w, Q (.panic c) (a.put (some d) v) w → Q (.panic c) a w := by exact fun _ _ _ h => h) (hw : Region.wanted oi (yielded ops l.toArray) = true := by rfl)
    (he : ∀ x, St w0 bs x → (execOp (Act.mk l.toArray ds).eval oi).run P x = .ok (.enter f args) x := by intro x hx; kernel_rfl) :
    Anw P md ops Q Wr (n + 1) listed (St w0 bs) ⟨l.toArray, ds⟩ := wake_call (st_ups _ _) hi hd hk hWi hB hQ hw he hc h
theorem ws {Wr : Nat → Bool} (i j q : Nat) (vs : List Value) {a : Act} {b : Blk} (hi : ops[i]? = some oi) (hd : oi.dst = none) (hj : bs[j]? = some b)
    (hv : ∀ x, St w0 bs x → (execOp a.eval oi).run P x = .ok .skip (putW x b.k q vs))
    (h : Anw P md ops Q Wr n (listed.setIfInBounds i true) (St w0 (bs.set j (b.putC q vs))) a)
    (hr : Region.ready md ops listed = [i] := by kernel_rfl) (hWi : Wr i = true := by rfl) (hw : Region.wanted oi (yielded ops a.tmps) = true := by rfl) :
    Anw P md ops Q Wr (n + 1) listed (St w0 bs) a := wake_store (St w0 (bs.set j (b.putC q vs))) (st_ups _ _) hr hWi hi hd hw (fun x => putW x b.k q vs) hv (fun _ hx => hx.putM vs q hj) h
theorem wkb {id : Nat} {a : Act} {w : World} (Wr : Nat → Bool) (k : Nat) (hS : St w0 bs w.drew) (hn : ops.size = k)
    (h : Anw P .any ops Q Wr k (Array.replicate k false) (St w0 bs) a) (hm : P.follows .mixedOrders = true := by kernel_rfl) : (Code.region id ops true).wp P Q a w := wake_begin (St w0 bs) Wr k hn hm hS h
end
end Go.Proofs.YtpbhfpogbndljaaDoor.Up
