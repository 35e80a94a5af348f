/-
  A loop of at most N rounds, of which something is known at each round's head; arrays of Bools as functions: for walks that are written by program (tools/sym.py).
-/
import Derived.Test.YtejcjjimhaokfaaDoorIf
import Derived.LoopN
import Derived.Tactics
import Derived.Laws.Cells
import Derived.Laws.IdiomCopy
namespace Go.Proofs.YtejcjjimhaokfaaDoor.Up
open Go.RowKit Go.Proofs.YtejcjjimhaokfaaDoor.Num
theorem loop_up {P : Program} {Q : Exit → Act → World → Prop} {a : Act} {w : World} {body : Code} (N : Nat) (R : Nat → Act → World → Prop) (h0 : R 0 a w)
    (step : ∀ k a w, k ≤ N → R k a w → body.wp P (Exit.then (fun a' w' => k < N ∧ R (k + 1) a' w') Q) a w) : (Code.loop body).wp P Q a w := by
  have key : ∀ m k a w, k + m = N + 1 → k ≤ N → R k a w → Code.rounds P body Q m a w := by
    intro m
    induction m with
    | zero => intro k a w h1 h2; omega
    | succ m ih =>
      intro k a w h1 h2 hR
      rw [rounds_succ]
      refine Code.wp_mono (fun e a' w' q => ?_) (step k a w h2 hR)
      cases e with
      | normal => exact ih (k + 1) a' w' (by omega) (by have := q.1; omega) q.2
      | exit id => exact q
      | goto l => exact q
      | ret => exact q
      | panic c => exact q
      | outgrown => exact q
  exact wp_loop_rounds (N + 1) (key (N + 1) 0 a w (by omega) (by omega) h0)

/-! Arrays of Bools, as functions. -/
def fnV (n : Nat) (B : Nat → Bool) : List Value := (List.range n).map fun i => .bool (B i)
def upd (B : Nat → Bool) (i : Nat) (v : Bool) : Nat → Bool := fun j => if j = i then v else B j
def two (n : Nat) (Z O : Nat → Bool) : Nat → Bool := fun j => if j < n then Z j else O (j - n)
def upto (k : Nat) (F : Nat → Bool) : Nat → Bool := fun j => decide (j < k) && F j
theorem fnV_len (n : Nat) (B : Nat → Bool) : (fnV n B).length = n := by simp [fnV]
theorem fnV_at (n : Nat) (B : Nat → Bool) (i : Nat) (h : i < n) : (fnV n B)[i]? = some (.bool (B i)) := by simp [fnV, h]
theorem fnV_some (n : Nat) (B : Nat → Bool) (i : Nat) (h : i < n) : ((fnV n B).map some)[i]? = some (some (.bool (B i))) := by rw [List.getElem?_map, fnV_at n B i h]; rfl
theorem fnV_ext {n : Nat} {A B : Nat → Bool} (h : ∀ i, i < n → A i = B i) : fnV n A = fnV n B := by
  unfold fnV
  apply List.map_congr_left
  intro i hi
  rw [h i (by simpa using hi)]
theorem fnV_set (n : Nat) (B : Nat → Bool) (i : Nat) (v : Bool) : ((fnV n B).map some).set i (some (.bool v)) = (fnV n (upd B i v)).map some := by
  apply List.ext_getElem?
  intro j
  rw [List.getElem?_set]
  by_cases h : j < n
  · rw [fnV_some n _ j h, fnV_some n _ j h]
    by_cases e : i = j
    · subst e; simp [fnV, h, upd]
    · simp [e, upd, Ne.symm e]
  · have e1 : ((fnV n B).map some)[j]? = none := by simp [fnV]; omega
    have e2 : ((fnV n (upd B i v)).map some)[j]? = none := by simp [fnV]; omega
    rw [e1, e2]
    by_cases e : i = j
    · subst e; simp [fnV, h]
    · simp [e]
theorem upd_lo {n : Nat} {A B : Nat → Bool} {k : Nat} {v : Bool} (h : k < n) : upd (two n A B) k v = two n (upd A k v) B := by
  funext j
  unfold upd two
  by_cases e : j = k
  · subst e; simp [h]
  · simp [e]
theorem upd_hi {n : Nat} {A B : Nat → Bool} {k : Nat} {v : Bool} : upd (two n A B) (n + k) v = two n A (upd B k v) := by
  funext j
  unfold upd two
  by_cases e : j = n + k
  · subst e; simp [show ¬ n + k < n by omega]
  · by_cases l : j < n
    · simp [e, l]
    · have : ¬ j - n = k := by omega
      simp [e, l, this]
theorem upd_same {B : Nat → Bool} {i : Nat} {v : Bool} : upd B i v i = v := by unfold upd; rw [if_pos rfl]
theorem upd_ne {B : Nat → Bool} {i j : Nat} {v : Bool} (h : j ≠ i) : upd B i v j = B j := by unfold upd; rw [if_neg h]
theorem two_lo {n : Nat} {A B : Nat → Bool} {k : Nat} (h : k < n) : two n A B k = A k := by unfold two; rw [if_pos h]
theorem two_hi {n : Nat} {A B : Nat → Bool} {k : Nat} : two n A B (n + k) = B k := by unfold two; rw [if_neg (by omega), Nat.add_sub_cancel_left]
/-- F holds below k. -/
def allTo (F : Nat → Bool) : Nat → Bool
  | 0 => true
  | k + 1 => allTo F k && F k
theorem allTo_iff (F : Nat → Bool) (n : Nat) : allTo F n = true ↔ ∀ i, i < n → F i = true := by
  induction n with
  | zero => simp [allTo]
  | succ n ih =>
    unfold allTo
    rw [Bool.and_eq_true, ih]
    constructor
    · intro ⟨h, k⟩ i hi
      by_cases e : i = n
      · rw [e]; exact k
      · exact h i (by omega)
    · intro h
      exact ⟨fun i hi => h i (by omega), h n (by omega)⟩
theorem allTo_not {F : Nat → Bool} {n r : Nat} (hr : r < n) (h : F r = false) : allTo F n = false := by
  rw [Bool.eq_false_iff]
  intro e
  rw [(allTo_iff F n).1 e r hr] at h
  cases h
/-- How far F holds, from 0 on, up to n. -/
def runs (F : Nat → Bool) : Nat → Nat
  | 0 => 0
  | k + 1 => if allTo F (k + 1) = true then k + 1 else runs F k
theorem runs_le (F : Nat → Bool) (n : Nat) : runs F n ≤ n := by
  induction n with
  | zero => exact Nat.le_refl _
  | succ n ih => unfold runs; split <;> omega
theorem runs_is {F : Nat → Bool} {n r : Nat} (hr : r ≤ n) (h : allTo F r = true) (k : r = n ∨ F r = false) : runs F n = r := by
  induction n with
  | zero => have : r = 0 := by omega
            subst this; rfl
  | succ n ih =>
    unfold runs
    by_cases e : r = n + 1
    · subst e; rw [if_pos h]
    · rcases k with k | k
      · exact absurd k e
      · rw [if_neg (by rw [allTo_not (show r < n + 1 by omega) k]; simp)]
        exact ih (by omega) (.inr k)
theorem upto_next {F : Nat → Bool} {k : Nat} {v : Bool} (h : v = F k) : upd (upto k F) k v = upto (k + 1) F := by
  funext j
  unfold upd upto
  by_cases e : j = k
  · subst e; simp [h]
  · have : (j < k) ↔ (j < k + 1) := by omega
    simp [e, this]
theorem upto_skip {F : Nat → Bool} {k : Nat} (h : F k = false) : upto (k + 1) F = upto k F := by
  funext j
  unfold upto
  by_cases e : j = k
  · subst e; simp [h]
  · have : (j < k + 1) ↔ (j < k) := by omega
    simp [this]
def bitsV (Z O : Nat → Bool) : List Value := fnV 128 (two 64 Z O)
theorem bits_none (Z O : Nat → Bool) : fnV 128 (two 64 (upto 0 Z) (upto 0 O)) = fnV 128 fun _ => false := by
  apply fnV_ext
  intro i _
  unfold two upto
  split <;> simp
theorem bits_all (Z O : Nat → Bool) : fnV 128 (two 64 (upto 64 Z) (upto 64 O)) = bitsV Z O := by
  apply fnV_ext
  intro i hi
  unfold two upto
  by_cases h : i < 64
  · simp [h]
  · simp [h, show i - 64 < 64 by omega]
theorem St.fn {w0 : World} {l : List Blk} {x : World} (h : St w0 l x) (j i : Nat) {k n : Nat} {B : Nat → Bool} {t : TypeId} (hj : l[j]? = some ⟨k, (fnV n B).map some, t⟩) (hi : i < n) : x.cell? ⟨k, i, none⟩ = some (.bool (B i)) :=
  h.load j i hj (fnV_some n B i hi)
theorem St.fnset {w0 : World} {l : List Blk} {x : World} (h : St w0 l x) (j i : Nat) (v : Bool) {k n : Nat} {B : Nat → Bool} {t : TypeId} (hj : l[j]? = some ⟨k, (fnV n B).map some, t⟩) : St w0 (l.set j ⟨k, (fnV n (upd B i v)).map some, t⟩) (x.setCell ⟨k, i, none⟩ (.bool v)) := by
  have g := h.put j i (.bool v) hj
  simp only [fnV_set] at g
  exact g
theorem set_at {l : List Blk} {j : Nat} {b c : Blk} (h : l[j]? = some b) : (l.set j c)[j]? = some c := by
  have hl : j < l.length := by
    rcases Nat.lt_or_ge j l.length with h' | h'
    · exact h'
    · rw [List.getElem?_eq_none h'] at h; cases h
  simp [hl]
theorem set_back {l : List Blk} {j : Nat} {b : Blk} (h : l[j]? = some b) : l.set j b = l := by
  apply List.ext_getElem?
  intro q
  rw [List.getElem?_set]
  by_cases e : j = q
  · subst e
    rw [if_pos rfl, h]
    have hl : j < l.length := by
      rcases Nat.lt_or_ge j l.length with h' | h'
      · exact h'
      · rw [List.getElem?_eq_none h'] at h; cases h
    rw [if_pos hl]
  · rw [if_neg e]
theorem St.putC {w0 : World} {j k : Nat} {t : TypeId} : ∀ (vs : List Value) (a c : List (Option Value)) {l : List Blk} {x : World}, St w0 l x → l[j]? = some ⟨k, a ++ c, t⟩ → vs.length = c.length → St w0 (l.set j ⟨k, a ++ vs.map some, t⟩) (x.setCells k a.length vs)
  | [], a, c, l, x, h, hj, hc => by
    have : c = [] := by cases c; rfl; simp at hc
    subst this
    simp only [List.map_nil]
    rw [set_back hj]
    exact h
  | v :: r, a, [], l, x, h, hj, hc => by simp at hc
  | v :: r, a, c0 :: c, l, x, h, hj, hc => by
    have g := h.put j a.length v hj
    simp only [List.set_append_right _ _ (Nat.le_refl _), Nat.sub_self, List.set_cons_zero] at g
    have hj2 : (l.set j ⟨k, a ++ some v :: c, t⟩)[j]? = some ⟨k, (a ++ [some v]) ++ c, t⟩ := by rw [set_at hj, List.append_assoc]; rfl
    have g2 := St.putC r (a ++ [some v]) c g hj2 (by simpa using hc)
    simp only [List.set_set, List.append_assoc, List.singleton_append, List.length_append, List.length_singleton] at g2
    exact g2
theorem St.putF {w0 : World} {l : List Blk} {x : World} (h : St w0 l x) (j : Nat) (cs : List Value) {k : Nat} {c : List (Option Value)} {t : TypeId} (hj : l[j]? = some ⟨k, c, t⟩) (hc : cs.length = c.length) : St w0 (l.set j ⟨k, cs.map some, t⟩) (x.setCells k 0 cs) :=
  St.putC cs [] c h hj hc
section
variable {P : Program} {w0 : World} {l : List Blk} {x : World} {j k n : Nat} {B : Nat → Bool} {t t' : TypeId}
theorem loadVar_run (h : St w0 l x) (j : Nat) (hj : l[j]? = some ⟨k, (fnV n B).map some, t'⟩) (ha : ∀ w, (isAgg t).run P w = .ok true w) (hs : ∀ w, (sizeOf t).run P w = .ok n w) : (loadVar t ⟨k, 0, none⟩).run P x = .ok (.agg (fnV n B).toArray) x := by
  have hl := run_loadCells_list (P := P) x ⟨k, 0, none⟩ (fnV n B) (fun i v hv => by
    have hi : i < n := by
      rcases Nat.lt_or_ge i n with h' | h'
      · exact h'
      · rw [List.getElem?_eq_none (by rw [fnV_len]; exact h')] at hv; cases hv
    rw [fnV_at n B i hi] at hv
    injection hv with hv
    subst hv
    have := h.fn j i hj hi
    rw [show (⟨k, 0, none⟩ : Addr).add i = ⟨k, i, none⟩ by unfold Addr.add; split <;> simp_all]
    exact this)
  rw [fnV_len] at hl
  unfold loadVar
  rw [Sem.run_bind, ha]
  simp only [Result.andThen_ok, if_true]
  rw [Sem.run_bind, hs]
  simp only [Result.andThen_ok]
  rw [Sem.run_bind, hl]
  rfl
theorem loadF {ρ : Operand → Value} {o : Oper} {a : Operand} (h : St w0 l x) (j : Nat) (hj : l[j]? = some ⟨k, (fnV n B).map some, t'⟩) (ho : o.op = .load t a) (hp : ρ a = .pointer (some ⟨k, 0, none⟩)) (ha : ∀ w, (isAgg t).run P w = .ok true w) (hs : ∀ w, (sizeOf t).run P w = .ok n w) : (execOp ρ o).run P x = .ok (.value (.agg (fnV n B).toArray)) x := by
  have hr := loadVar_run h j hj ha hs
  unfold execOp
  simp only [ho, Instr.loadAt, hp, Instr.sureAddr, Sem.run_bind, Sem.run_pure, Result.andThen_ok, hr]
theorem storeF {ρ : Operand → Value} {o : Oper} {a v : Operand} {cs : List Value} {c : List (Option Value)} (h : St w0 l x) (j : Nat) (hj : l[j]? = some ⟨k, c, t'⟩) (hc : cs.length = c.length) (h1 : ∀ v ∈ cs, v.oneCell' = true) (ho : o.op = .store t a v) (hp : ρ a = .pointer (some ⟨k, 0, none⟩)) (hv : ρ v = .agg cs.toArray) (hs : ∀ w, (sizeOf t).run P w = .ok cs.length w) : (execOp ρ o).run P x = .ok .skip (x.setCells k 0 cs) := by
  have hr := run_storeCells_cells (P := P) k 0 cs 0 x (fun i hi => by
      obtain ⟨v, hv⟩ := h.has j i hj (by simp only; omega)
      simp only [Nat.zero_add]
      rw [hv]; rfl) (fun i _ => by simp only [Nat.zero_add]; exact h.soft j i hj) h1
  unfold execOp
  simp only [ho, Instr.storeAt, hp, hv, Instr.sureAddr, Sem.run_bind, Sem.run_pure, Result.andThen_ok, storeVar, hs, Value.cells]
  rw [if_neg (by simp), hr]
  rfl
theorem results_cell {fn : Func} {tmps : Array Value} {a : Tmp} {t : TypeId} {p : Addr} {v : Value} {w : World} (hr : fn.results = #[.cell a t]) (ha : tmps.getD a undef = .pointer (some p)) (hl : (loadVar t p).run P w = .ok v w) : (results fn tmps).run P w = .ok v w := by
  unfold results
  rw [hr]
  have ha' : tmps[a]?.getD undef = .pointer (some p) := by rw [← ha]; simp
  simp [asAddr, ha', hl]
theorem fnV_one (n : Nat) (B : Nat → Bool) : ∀ v ∈ fnV n B, v.oneCell' = true := by
  intro v hv
  unfold fnV at hv
  rw [List.mem_map] at hv
  obtain ⟨i, _, rfl⟩ := hv
  rfl
end
/-! Numbers as natural ones. -/
theorem addN (a b : Nat) (h : a + b < 9223372036854775808) : IntKind.i64.wrap ((a : Int) + (b : Int)) = ((a + b : Nat) : Int) := by
  rw [IntKind.wrap_i64]; omega
theorem subN (a b : Nat) (h : b ≤ a) (k : a < 9223372036854775808) : IntKind.i64.wrap ((a : Int) - (b : Int)) = ((a - b : Nat) : Int) := by
  rw [IntKind.wrap_i64]; omega
theorem subZ (a b : Nat) (h : a < 4611686018427387904) (k : b < 4611686018427387904) : IntKind.i64.wrap ((a : Int) - (b : Int)) = (a : Int) - (b : Int) := by
  rw [IntKind.wrap_i64]; omega
theorem mulN (a b : Nat) (h : a * b < 9223372036854775808) : IntKind.i64.wrap ((a : Int) * (b : Int)) = ((a * b : Nat) : Int) := by
  rw [IntKind.wrap_i64, ← Int.natCast_mul]; omega
theorem remN (a b : Nat) : (a : Int).tmod (b : Int) = ((a % b : Nat) : Int) := by
  rw [Int.tmod_eq_emod_of_nonneg (by omega)]; rfl
theorem quoN (a b : Nat) (h : a < 9223372036854775808) : IntKind.i64.wrap ((a : Int).tdiv (b : Int)) = ((a / b : Nat) : Int) := by
  have e : (a : Int) / (b : Int) = ((a / b : Nat) : Int) := (Int.natCast_ediv a b).symm
  rw [Int.tdiv_eq_ediv_of_nonneg (by omega), e, IntKind.wrap_i64]
  have h2 := Nat.div_le_self a b
  generalize a / b = q at h2 ⊢
  omega
theorem toU (a : Nat) : IntKind.u64.wrap (a : Int) = tn (BitVec.ofNat 64 a) := by
  rw [IntKind.wrap_u64]
  unfold tn
  rw [BitVec.toNat_ofNat]
  omega
theorem bit_at (x : BitVec 64) (k : Nat) (h : k < 64) : ((x >>> (BitVec.ofNat 64 k).toNat) % 2#64 == 1#64) = x.getLsbD k := by
  have e : (BitVec.ofNat 64 k).toNat = k := by rw [BitVec.toNat_ofNat]; omega
  rw [e, Bool.eq_iff_iff, beq_iff_eq]
  have t : x.getLsbD k = decide (x.toNat / 2 ^ k % 2 = 1) := by
    rw [BitVec.getLsbD, Nat.testBit_eq_decide_div_mod_eq]
  rw [t, decide_eq_true_iff]
  constructor
  · intro q
    have := congrArg BitVec.toNat q
    rw [BitVec.toNat_umod, BitVec.toNat_ushiftRight, Nat.shiftRight_eq_div_pow] at this
    exact this
  · intro q
    apply BitVec.eq_of_toNat_eq
    rw [BitVec.toNat_umod, BitVec.toNat_ushiftRight, Nat.shiftRight_eq_div_pow]
    exact q
end Go.Proofs.YtejcjjimhaokfaaDoor.Up
