/-
  Operations whose guard is not decided: the slot holds the value if the guard says so: for walks that are written by program (tools/sym.py).
-/
import Derived.Test.YtejcjjimhaokfaaDoorOps
namespace Go.Proofs.YtejcjjimhaokfaaDoor.Up
open Go.RowKit Go.Proofs.YtejcjjimhaokfaaDoor.Num
def ti32 (x : BitVec 32) : Int := x.toInt
theorem cutI32 (x : BitVec 64) : IntKind.i32.wrap (ti x) = ti32 (BitVec.setWidth 32 x) := by
  have h := ofI x
  have e : BitVec.setWidth 32 x = BitVec.ofInt 32 (ti x) := by
    conv => lhs; rw [← h]
    apply BitVec.eq_of_toNat_eq
    rw [BitVec.toNat_setWidth, BitVec.toNat_ofInt, BitVec.toNat_ofInt]
    omega
  unfold ti32
  rw [e, BitVec.toInt_ofInt, IntKind.wrap_i32]
  simp only [Int.bmod]
  omega
theorem wideI32 (x : BitVec 32) : IntKind.i64.wrap (ti32 x) = ti (BitVec.signExtend 64 x) := by
  have e : ti (BitVec.signExtend 64 x) = ti32 x := by
    unfold ti ti32
    exact BitVec.toInt_signExtend_of_le (by decide)
  have h0 := BitVec.le_toInt x
  have h1 := BitVec.toInt_lt (x := x)
  rw [e, IntKind.wrap_i64]
  unfold ti32
  omega
theorem nnb {b : Bool} (h : (!b) = true) : b = false := by cases b <;> simp at h ⊢
theorem eq_of_bne {n : Nat} {a b : BitVec n} (h : (a != b) = false) : a = b := by simpa using h
theorem flip_t {b : Bool} (h : Hid ((!b) = false)) : Hid (b = true) := by cases b <;> first | rfl | exact (nomatch h.out)
theorem flip_f {b : Bool} (h : Hid ((!b) = true)) : Hid (b = false) := by cases b <;> first | rfl | exact (nomatch h.out)
section
variable {P : Program} {ops : Array Oper} {Q : Exit → Act → World → Prop} {md : Region.Mode}
theorem take_if {i d : Nat} {oi : Oper} {v : Value} {n : Nat} {listed : Array Bool} {S : World → Prop} {l : List Value} {ds : List Deferred} (b : Bool) (hU : Ups S) (hi : ops[i]? = some oi) (hd : oi.dst = some d)
    (hk : okay md ops listed i = true)
    (hQ : ∀ u c a w, Q (.panic c) (a.put (some d) u) w → Q (.panic c) a w) (hw : Region.wanted oi (yielded ops l.toArray) = b)
    (hv : b = true → ∀ w, S w → (execOp (Act.mk l.toArray ds).eval oi).run P w = .ok (.value v) w)
    (h : Any P md ops Q n (listed.setIfInBounds i true) S ⟨(l.set d (cond b v undef)).toArray, ds⟩) : Any P md ops Q (n + 1) listed S ⟨l.toArray, ds⟩ :=
  any_first (a := ⟨l.toArray, ds⟩) (v := cond b v undef) hi (Region.noSelect_spec (okay_spec hk).1) (by rw [hd]; exact hQ _) n listed S (Region.free_spec hi (okay_spec hk).2.1) (by simpa using (okay_spec hk).2.2) hU ⟨rfl, hw⟩ (fun hb w hS => .inl ⟨w, by rw [hb]; exact hv hb w hS, Below.refl _ _⟩) (fun hb => by rw [hb]; rfl) (by rw [hd, put_some]; exact h)
theorem take_if_call {i d : Nat} {oi : Oper} {v : Value} {f : FuncId} {args : Array Value} {n : Nat} {listed : Array Bool} {S : World → Prop} {l : List Value} {ds : List Deferred} (b : Bool) (hU : Ups S) (hi : ops[i]? = some oi) (hd : oi.dst = some d)
    (hk : okay md ops listed i = true)
    (hQ : ∀ u c a w, Q (.panic c) (a.put (some d) u) w → Q (.panic c) a w) (hw : Region.wanted oi (yielded ops l.toArray) = b)
    (he : b = true → ∀ w, S w → (execOp (Act.mk l.toArray ds).eval oi).run P w = .ok (.enter f args) w)
    (hc : b = true → ∀ w, S w → Calls P f args w fun e w' => e = .returned v ∧ Below w.heap.size w w')
    (h : Any P md ops Q n (listed.setIfInBounds i true) S ⟨(l.set d (cond b v undef)).toArray, ds⟩) : Any P md ops Q (n + 1) listed S ⟨l.toArray, ds⟩ :=
  any_first (a := ⟨l.toArray, ds⟩) (v := cond b v undef) hi (Region.noSelect_spec (okay_spec hk).1) (by rw [hd]; exact hQ _) n listed S (Region.free_spec hi (okay_spec hk).2.1) (by simpa using (okay_spec hk).2.2) hU ⟨rfl, hw⟩ (fun hb w hS => .inr ⟨f, args, w, he hb w hS, by rw [hb]; exact hc hb w hS⟩) (fun hb => by rw [hb]; rfl) (by rw [hd, put_some]; exact h)
theorem lin_if {i d : Nat} {oi : Oper} {v : Value} {rest : List Nat} {S : World → Prop} {l : List Value} {ds : List Deferred} (b : Bool) (hi : ops[i]? = some oi) (hd : oi.dst = some d)
    (hw : Region.wanted oi (yielded ops l.toArray) = b)
    (hv : b = true → ∀ w, S w → (execOp (Act.mk l.toArray ds).eval oi).run P w = .ok (.value v) w)
    (h : Lin P ops Q rest S ⟨(l.set d (cond b v undef)).toArray, ds⟩) : Lin P ops Q (i :: rest) S ⟨l.toArray, ds⟩ := by
  cases b
  · exact lin_no hi hd hw h
  · exact lin_val hi hd hw (hv rfl) h
theorem lin_if_call {i d : Nat} {oi : Oper} {v : Value} {f : FuncId} {args : Array Value} {rest : List Nat} {S : World → Prop} {l : List Value} {ds : List Deferred} (b : Bool) (hU : Ups S) (hi : ops[i]? = some oi) (hd : oi.dst = some d)
    (hw : Region.wanted oi (yielded ops l.toArray) = b)
    (he : b = true → ∀ w, S w → (execOp (Act.mk l.toArray ds).eval oi).run P w = .ok (.enter f args) w)
    (hc : b = true → ∀ w, S w → Calls P f args w fun e w' => e = .returned v ∧ Below w.heap.size w w')
    (h : Lin P ops Q rest S ⟨(l.set d (cond b v undef)).toArray, ds⟩) : Lin P ops Q (i :: rest) S ⟨l.toArray, ds⟩ := by
  cases b
  · exact lin_no hi hd hw h
  · exact lin_call hU hi hd hw (he rfl) (hc rfl) h
end
end Go.Proofs.YtejcjjimhaokfaaDoor.Up
