/-
  A list of declarations of one's own that is filled one by one.
-/
import Derived.Test.YtejcjjimhaokfaaDoorDlI
import Derived.Test.YtejcjjimhaokfaaDoorFlS
import Derived.KernelRfl
namespace Go.Proofs.YtejcjjimhaokfaaDoor.Dcl
open Go.RowKit Go.Proofs.YtejcjjimhaokfaaDoor.Num Go.Proofs.YtejcjjimhaokfaaDoor.ListB Go.Proofs.YtejcjjimhaokfaaDoor.Up Go.Proofs.YtejcjjimhaokfaaDoor.Tn
theorem VN_set (l : List In) (k : Nat) (x : In) (hk : k < l.length) :
    (((((VN l).set (k * 5) (.int .i64 x.op)).set (k * 5 + 1) (.int .i64 x.d)).set (k * 5 + 2) (.int .i64 x.s)).set (k * 5 + 3) (.int .i64 x.o)).set (k * 5 + 4) (.int .i64 x.m) = VN (l.set k x) := by
  induction l generalizing k with
  | nil => simp at hk
  | cons y l ih =>
    cases k with
    | zero =>
      rw [List.set_cons_zero, VN_cons, VN_cons]
      rfl
    | succ k =>
      have ih' := ih k (by simpa using hk)
      have hs : ∀ (A : List Value) (j : Nat) (v : Value), (y.vals ++ A).set ((k + 1) * 5 + j) v = y.vals ++ A.set (k * 5 + j) v := fun A j v => by
        rw [List.set_append, if_neg (by simp [In.vals]; omega), show (k + 1) * 5 + j - y.vals.length = k * 5 + j by simp [In.vals]; omega]
      rw [List.set_cons_succ, VN_cons, VN_cons]
      have h0 : (y.vals ++ VN l).set ((k + 1) * 5) (.int .i64 x.op) = y.vals ++ (VN l).set (k * 5) (.int .i64 x.op) := hs (VN l) 0 (.int .i64 x.op)
      rw [h0, hs, hs, hs, hs, ih']
theorem own_some {w : World} {base g n c size : Nat} {e : TypeId} {xs : List Value} (h : w.ownsRow base e size (.slice (some ⟨g, 0, none⟩) n c) n xs) (j : Nat) (hj : j < n * size) : ∃ u, w.cell? ⟨g, j, none⟩ = some u :=
  ⟨_, (h.cellAt j hj).trans (List.getElem?_eq_getElem (by rw [h.1]; exact hj))⟩
theorem grown_of3 {w w' : World} {r : Option Nat} (h : Below w.heap.size w w') : w.grownBy w' r := ⟨h.os, h.tape, h.output, h.size, fun k hk _ => h.block k hk⟩
def In1 : In := ⟨1, 1, 1, 0, 0⟩
def In0 : In := ⟨0, 0, 0, 0, 0⟩
/-- The first k of ten are ones. -/
def fillN (k : Nat) : List In := List.replicate k In1 ++ List.replicate (10 - k) In0
theorem fill_len {k : Nat} (h : k ≤ 10) : (fillN k).length = 10 := by simp [fillN]; omega
theorem fill_set {k : Nat} (h : k < 10) : (fillN k).set k In1 = fillN (k + 1) := by
  unfold fillN
  rw [List.set_append, if_neg (by simp), List.length_replicate, Nat.sub_self, show 10 - k = (10 - (k + 1)) + 1 by omega, List.replicate_succ, List.set_cons_zero, List.replicate_succ', List.append_assoc]
  rfl
def dc1 : Dc := ⟨1#64, 1#64, 1#64, 0#64, 0#64⟩
theorem fill_map : (List.replicate 10 dc1).map Dc.di = fillN 10 := rfl
theorem fill_more : (List.replicate 11 dc1).map Dc.di = fillN 10 ++ [In1] := rfl
theorem made_is : (madeCells (Value.agg #[.int .i64 0, .int .i64 0, .int .i64 0, .int .i64 0, .int .i64 0]).cells (10 * 5)).toList = VN (fillN 0) := by kernel_rfl
/-- append(m, d), whatever the guard says of it. -/
theorem wpList_appD {ops : Array Oper} {rest : List Oper} {o : Oper} {ac : Act} {Q : Exit → Act → World → Prop} (w : World) (hw : Region.wanted o (yielded ops ac.tmps) = true) (s x : Operand)
    (ho : o.op = .call { callee := .builtin .append, args := #[s, x], argTypes := #[22, 22] })
    (base : Nat) (v : Value) (n : Nat) (T : List In) (hs : ac.eval s = v) (hown : w.ownsRow base 30 5 v n (VN T)) (ad : Addr) (c : Nat) (y : In) (hx : ac.eval x = .slice (some ad) 1 c)
    (hy : ∀ j u, y.vals[j]? = some u → w.cell? (ad.add j) = some u) (hn : n ≤ 1000) (hbase : base ≤ w.heap.size)
    (h : ∀ v' w', w'.ownsRow base 30 5 v' (n + 1) (VN (T ++ [y])) → w.grownBy w' v.ownBlock → wpList Tryd.prog ops Q rest (ac.put o.dst v') w') : wpList Tryd.prog ops Q (o :: rest) ac w := by
  obtain ⟨i0, hi, hz0, hz1, hz2⟩ := info_parts infoIn
  refine Flow.wpList_app w hw s x 22 ho base 30 i0 (.agg #[.int .i64 0, .int .i64 0, .int .i64 0, .int .i64 0, .int .i64 0]) Tryd.underlying22 hi hz0 (by rw [hz1]; rfl) (by rw [hz1]; omega) v n (VN T) hs (by rw [hz1]; exact hown) ad 1 c y.vals hx (by rw [hz1]; rfl) hy (five_one _ _ _ _ _) (by omega) (by unfold maxLen; omega) (by rw [hz2]; omega) hbase ?_
  intro v' w' h1 h2 _
  rw [hz1] at h1
  exact h v' w' (by rw [VN_append]; exact h1) h2
theorem chk_ten : chkD (List.replicate 10 dc1) = 0#64 := by decide +kernel
theorem chk_eleven : chkD (List.replicate 11 dc1) = 19#64 := by decide +kernel
theorem check_fill {W : World} {a : Option Addr} {cap : Nat} (h : ArgN W a 10 (fillN 10)) (hT : Tab W) :
    Calls Tryd.prog 10 #[.slice a 10 cap] W fun e w' => e = .returned (.int .i64 0) ∧ Below W.heap.size W w' := by
  have := check_any (List.replicate 10 dc1) a 10 cap W (by rw [fill_map]; exact h) hT
  rw [chk_ten] at this
  exact this
theorem check_more {W : World} {a : Option Addr} {cap : Nat} (h : ArgN W a 11 (fillN 10 ++ [In1])) (hT : Tab W) :
    Calls Tryd.prog 10 #[.slice a 11 cap] W fun e w' => e = .returned (.int .i64 19) ∧ Below W.heap.size W w' := by
  have := check_any (List.replicate 11 dc1) a 11 cap W (by rw [fill_more]; exact h) hT
  rw [chk_eleven] at this
  exact this
end Go.Proofs.YtejcjjimhaokfaaDoor.Dcl
