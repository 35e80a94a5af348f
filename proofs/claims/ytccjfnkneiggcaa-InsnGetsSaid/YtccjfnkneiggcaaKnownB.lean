/-
  The walk of the law InsnKnown: the chapter's examples, how many opcodes there are, what is wrong with some instructions, and the ends.
-/
import Derived.Test.YtccjfnkneiggcaaKnownA
import Derived.Laws.OwnMore
import Derived.Deep.RegionHeld3
import Derived.Deep.DeepCutAuto
namespace Go.Proofs.Ytccjfnkneiggcaa.Insn
open Go.RowKit Go.Proofs.Ytccjfnkneiggcaa.Num Go.Proofs.Ytccjfnkneiggcaa.ListB
theorem bytes_lit (x : In) (zs : List Int) (cs : Array Value) (n : Nat) (hx : InWf x) (hc : x.chk = 0) (he : encOne x = zs) (hv : cs.toList = V zs) (hn : n = zs.length) (w : World) :
    Calls Try.prog 33 #[insnV x.op x.d x.s x.o x.m, .slice (some ⟨w.heap.size, 0, none⟩) n n] (w.alloc (.cells cs 5)) fun e w' => e = .returned (.bool true) ∧ Below w.heap.size w w' :=
  (bytes_true x w.heap.size n zs (w.alloc (.cells cs 5)) hx hc he (by simp) (lit_bytes _ _ _ _ _ (heap_alloc_new w _) hv) n hn).mono fun _ _ h => ⟨h.1, (below_new w _).trans (h.2.mono (by simp))⟩
def KS (b1 b2 : Nat) (w0 w' : World) : Prop := XB w' b1 ⟨0, 0, 0, 0, 16⟩ ∧ XB w' b2 ⟨0, 0, 3, 0, 0⟩ ∧ Below w0.heap.size w0 w'
theorem KS.up {b1 b2 : Nat} {w0 w1 w2 : World} (h : KS b1 b2 w0 w1) (hb : Below w1.heap.size w1 w2) : KS b1 b2 w0 w2 :=
  ⟨(hb.block b1 h.1.lt).trans h.1, (hb.block b2 h.2.1.lt).trans h.2.1, h.2.2.trans (hb.mono h.2.2.size)⟩
theorem KS.cells {b1 b2 : Nat} {w0 w1 : World} (h : KS b1 b2 w0 w1) :
    (w1.cell? ⟨b1, 0, none⟩ = some (.int .i64 0) ∧ w1.cell? ⟨b1, 1, none⟩ = some (.int .i64 0) ∧ w1.cell? ⟨b1, 2, none⟩ = some (.int .i64 0) ∧ w1.cell? ⟨b1, 3, none⟩ = some (.int .i64 0) ∧ w1.cell? ⟨b1, 4, none⟩ = some (.int .i64 16)) ∧
    (w1.cell? ⟨b2, 0, none⟩ = some (.int .i64 0) ∧ w1.cell? ⟨b2, 1, none⟩ = some (.int .i64 0) ∧ w1.cell? ⟨b2, 2, none⟩ = some (.int .i64 3) ∧ w1.cell? ⟨b2, 3, none⟩ = some (.int .i64 0) ∧ w1.cell? ⟨b2, 4, none⟩ = some (.int .i64 0)) := ⟨h.1.cells, h.2.1.cells⟩
theorem many_at (c op d s o m : Int) (n : Nat) (hn : manyN c d s o m 256 = n) (w : World) :
    Calls Try.prog 34 #[.int .i64 c, .agg #[.int .i64 op, .int .i64 d, .int .i64 s, .int .i64 o, .int .i64 m]] w fun e w' => e = .returned (.int .i64 (n : Nat)) ∧ Below w.heap.size w w' := by
  have := many_any c op d s o m w
  rw [hn] at this
  exact this
def KMany (c d s o m n : Int) : Prop := ∀ w : World, Calls Try.prog 34 #[.int .i64 c, .agg #[.int .i64 0, .int .i64 d, .int .i64 s, .int .i64 o, .int .i64 m]] w fun e w' => e = .returned (.int .i64 n) ∧ Below w.heap.size w w'
def badL : List In := [⟨149, 0, 0, 0, 1⟩, ⟨103, 1, 0, 0, 64⟩, ⟨100, 1, 0, 0, 32⟩, ⟨24, 0, 2, 0, 0⟩, ⟨24, 0, 1, 0, -1⟩, ⟨24, 10, 0, 0, 0⟩, ⟨5, 0, 0, 32768, 0⟩, ⟨97, 11, 0, 0, 0⟩, ⟨215, 0, 0, 0, 16⟩, ⟨6, 0, 0, 0, 0⟩, ⟨143, 0, 0, 0, 0⟩, ⟨219, 0, 0, 0, 2⟩, ⟨219, 0, 10, 0, 1⟩, ⟨219, 0, 10, 0, 0⟩, ⟨212, 0, 0, 0, 8⟩, ⟨183, 0, 0, 0, 2147483648⟩, ⟨256, 0, 0, 0, 0⟩, ⟨-1, 0, 0, 0, 0⟩, ⟨123, 10, 0, 0, 1⟩, ⟨191, 0, -1, 0, 0⟩]
def wantL : List Int := [9, 10, 10, 9, 10, 8, 10, 8, 7, 7, 7, 10, 8, 0, 10, 10, 7, 7, 9, 8]
theorem bad_all : ((List.range 20).all fun k => decide (chkD (badL.getD k ⟨0, 0, 0, 0, 0⟩).op (badL.getD k ⟨0, 0, 0, 0, 0⟩).d (badL.getD k ⟨0, 0, 0, 0, 0⟩).s (badL.getD k ⟨0, 0, 0, 0, 0⟩).o (badL.getD k ⟨0, 0, 0, 0, 0⟩).m = wantL.getD k 0) && decide (-9223372036854775808 ≤ (badL.getD k ⟨0, 0, 0, 0, 0⟩).op) && decide ((badL.getD k ⟨0, 0, 0, 0, 0⟩).op ≤ 9223372036854775807)) = true := by kernel_rfl
theorem bad_at {k : Nat} {x : In} (h : badL[k]? = some x) : k < 20 ∧ chkD x.op x.d x.s x.o x.m = wantL.getD k 0 ∧ (Lit.int .i64 x.op).wf = true := by
  have hk : k < 20 := (List.getElem?_eq_some_iff.1 h).1
  have a := List.all_eq_true.1 bad_all k (List.mem_range.2 hk)
  rw [List.getD_eq_getElem?_getD, h] at a
  simp only [Option.getD_some, Bool.and_eq_true, decide_eq_true_eq] at a
  exact ⟨hk, a.1.1, WalkArith.wf_i64 ⟨a.1.2, a.2⟩⟩
theorem get_through (l : List In) : ∀ (acc : List In) (r : List Int), AllOk l → Big l → acc.length + l.length ≤ 256 → getT (257 - acc.length) acc (enc l ++ r) = getT (257 - (acc.length + l.length)) (acc ++ l) r := by
  induction l with
  | nil => intro acc r _ _ _; simp [enc]
  | cons x l ih =>
    intro acc r hok hbig hl
    simp only [List.length_cons] at hl
    have hx : x.chk = 0 := hok 0 x rfl
    have hf := fine_of hx
    have hxm := hbig 0 x rfl
    have hlen := encOne_length x
    have hd : (encOne x ++ (enc l ++ r)).drop (lenI ((encOne x ++ (enc l ++ r)).getD 0 0)) = enc l ++ r := by
      rw [enc_head, List.drop_append, List.drop_of_length_le (by omega), hlen]; simp
    rw [enc_cons, List.append_assoc, show 257 - acc.length = (256 - acc.length) + 1 by omega, getT_step _ _ _ (enc_ne x _) (by omega) (by rw [err_enc x _ hf hxm]; exact hx), hd, dec_enc x hf hxm, show 256 - acc.length = 257 - (acc ++ [x]).length by rw [List.length_append]; simp only [List.length_cons, List.length_nil]; omega, ih (acc ++ [x]) r (tail_ok hok) (tail_big hbig) (by rw [List.length_append]; simp only [List.length_cons, List.length_nil]; omega)]
    rw [List.length_append, List.append_assoc]
    simp only [List.length_cons, List.length_nil, List.cons_append, List.nil_append]
    congr 1
    omega
def xE : In := ⟨149, 0, 0, 0, 0⟩
theorem rep_get {n k : Nat} {x : In} (h : (List.replicate n xE)[k]? = some x) : x = xE := by
  rw [List.getElem?_replicate] at h
  split at h
  · exact (Option.some.inj h).symm
  · cases h
theorem rep_ok (n : Nat) : AllOk (List.replicate n xE) := fun k x h => by rw [rep_get h]; kernel_rfl
theorem rep_big (n : Nat) : Big (List.replicate n xE) := fun k x h => by rw [rep_get h]; unfold xE; simp
theorem rep_wf (n : Nat) : WfL (List.replicate n xE) := wfL_of (rep_ok n) (rep_big n)
theorem rep_many (r : List Int) (h : r ≠ []) : getR (enc (List.replicate 256 xE) ++ r) = ([], 19) := by
  have := get_through (List.replicate 256 xE) [] r (rep_ok _) (rep_big _) (by rw [List.length_replicate]; exact Nat.le_refl _)
  simp only [List.length_nil, List.length_replicate, List.nil_append] at this
  unfold getR
  rw [show 257 = 257 - 0 from rfl, this, show 257 - (0 + 256) = 0 + 1 from rfl, getT_many _ _ _ h List.length_replicate]
theorem KS.new (w : World) : KS w.heap.size (w.heap.size + 1) w ((w.alloc (.cells #[.int .i64 0, .int .i64 0, .int .i64 0, .int .i64 0, .int .i64 16] 23)).alloc (.cells #[.int .i64 0, .int .i64 0, .int .i64 3, .int .i64 0, .int .i64 0] 23)) := by
  have h1 := XB.new w ⟨0, 0, 0, 0, 16⟩
  have h2 := XB.new (w.alloc (.cells #[.int .i64 0, .int .i64 0, .int .i64 0, .int .i64 0, .int .i64 16] 23)) ⟨0, 0, 3, 0, 0⟩
  have e : (w.alloc (.cells #[.int .i64 0, .int .i64 0, .int .i64 0, .int .i64 0, .int .i64 16] 23)).heap.size = w.heap.size + 1 := by simp
  rw [e] at h2
  exact ⟨((below_new _ _).block w.heap.size (by omega)).trans h1, h2, (below_new w _).trans ((below_new _ _).mono (by omega))⟩
def TS (b c : Nat) (w0 w : World) : Prop := NRow w b 0 badL ∧ (∀ i, i < 20 → w.cell? ⟨c, i, none⟩ = some (.int .i64 (wantL.getD i 0))) ∧ b < w.heap.size ∧ c < w.heap.size ∧ Below w0.heap.size w0 w
theorem TS.up {b c : Nat} {w0 w w' : World} (h : TS b c w0 w) (hb : Below w.heap.size w w') : TS b c w0 w' :=
  ⟨h.1.below hb h.2.2.1, fun i hi => (hb.cell (p := ⟨c, i, none⟩) h.2.2.2.1).trans (h.2.1 i hi), Nat.lt_of_lt_of_le h.2.2.1 hb.size, Nat.lt_of_lt_of_le h.2.2.2.1 hb.size, h.2.2.2.2.trans (hb.mono h.2.2.2.2.size)⟩
set_option maxRecDepth 100000 in
theorem TS.new (w : World) : TS w.heap.size (w.heap.size + 1) w ((w.alloc (.cells #[.int .i64 149, .int .i64 0, .int .i64 0, .int .i64 0, .int .i64 1, .int .i64 103, .int .i64 1, .int .i64 0, .int .i64 0, .int .i64 64, .int .i64 100, .int .i64 1, .int .i64 0, .int .i64 0, .int .i64 32, .int .i64 24, .int .i64 0, .int .i64 2, .int .i64 0, .int .i64 0, .int .i64 24, .int .i64 0, .int .i64 1, .int .i64 0, .int .i64 (-1), .int .i64 24, .int .i64 10, .int .i64 0, .int .i64 0, .int .i64 0, .int .i64 5, .int .i64 0, .int .i64 0, .int .i64 32768, .int .i64 0, .int .i64 97, .int .i64 11, .int .i64 0, .int .i64 0, .int .i64 0, .int .i64 215, .int .i64 0, .int .i64 0, .int .i64 0, .int .i64 16, .int .i64 6, .int .i64 0, .int .i64 0, .int .i64 0, .int .i64 0, .int .i64 143, .int .i64 0, .int .i64 0, .int .i64 0, .int .i64 0, .int .i64 219, .int .i64 0, .int .i64 0, .int .i64 0, .int .i64 2, .int .i64 219, .int .i64 0, .int .i64 10, .int .i64 0, .int .i64 1, .int .i64 219, .int .i64 0, .int .i64 10, .int .i64 0, .int .i64 0, .int .i64 212, .int .i64 0, .int .i64 0, .int .i64 0, .int .i64 8, .int .i64 183, .int .i64 0, .int .i64 0, .int .i64 0, .int .i64 2147483648, .int .i64 256, .int .i64 0, .int .i64 0, .int .i64 0, .int .i64 0, .int .i64 (-1), .int .i64 0, .int .i64 0, .int .i64 0, .int .i64 0, .int .i64 123, .int .i64 10, .int .i64 0, .int .i64 0, .int .i64 1, .int .i64 191, .int .i64 0, .int .i64 (-1), .int .i64 0, .int .i64 0] 23)).alloc (.cells #[.int .i64 9, .int .i64 10, .int .i64 10, .int .i64 9, .int .i64 10, .int .i64 8, .int .i64 10, .int .i64 8, .int .i64 7, .int .i64 7, .int .i64 7, .int .i64 10, .int .i64 8, .int .i64 0, .int .i64 10, .int .i64 10, .int .i64 7, .int .i64 7, .int .i64 9, .int .i64 8] 26)) := by
  have h1 := World.ownsRow_lit (base := w.heap.size) (e := 23) (size := 5) w #[.int .i64 149, .int .i64 0, .int .i64 0, .int .i64 0, .int .i64 1, .int .i64 103, .int .i64 1, .int .i64 0, .int .i64 0, .int .i64 64, .int .i64 100, .int .i64 1, .int .i64 0, .int .i64 0, .int .i64 32, .int .i64 24, .int .i64 0, .int .i64 2, .int .i64 0, .int .i64 0, .int .i64 24, .int .i64 0, .int .i64 1, .int .i64 0, .int .i64 (-1), .int .i64 24, .int .i64 10, .int .i64 0, .int .i64 0, .int .i64 0, .int .i64 5, .int .i64 0, .int .i64 0, .int .i64 32768, .int .i64 0, .int .i64 97, .int .i64 11, .int .i64 0, .int .i64 0, .int .i64 0, .int .i64 215, .int .i64 0, .int .i64 0, .int .i64 0, .int .i64 16, .int .i64 6, .int .i64 0, .int .i64 0, .int .i64 0, .int .i64 0, .int .i64 143, .int .i64 0, .int .i64 0, .int .i64 0, .int .i64 0, .int .i64 219, .int .i64 0, .int .i64 0, .int .i64 0, .int .i64 2, .int .i64 219, .int .i64 0, .int .i64 10, .int .i64 0, .int .i64 1, .int .i64 219, .int .i64 0, .int .i64 10, .int .i64 0, .int .i64 0, .int .i64 212, .int .i64 0, .int .i64 0, .int .i64 0, .int .i64 8, .int .i64 183, .int .i64 0, .int .i64 0, .int .i64 0, .int .i64 2147483648, .int .i64 256, .int .i64 0, .int .i64 0, .int .i64 0, .int .i64 0, .int .i64 (-1), .int .i64 0, .int .i64 0, .int .i64 0, .int .i64 0, .int .i64 123, .int .i64 10, .int .i64 0, .int .i64 0, .int .i64 1, .int .i64 191, .int .i64 0, .int .i64 (-1), .int .i64 0, .int .i64 0] 20 (Nat.le_refl _) (by unfold maxLen; omega) rfl
  have e : (w.alloc (.cells #[.int .i64 149, .int .i64 0, .int .i64 0, .int .i64 0, .int .i64 1, .int .i64 103, .int .i64 1, .int .i64 0, .int .i64 0, .int .i64 64, .int .i64 100, .int .i64 1, .int .i64 0, .int .i64 0, .int .i64 32, .int .i64 24, .int .i64 0, .int .i64 2, .int .i64 0, .int .i64 0, .int .i64 24, .int .i64 0, .int .i64 1, .int .i64 0, .int .i64 (-1), .int .i64 24, .int .i64 10, .int .i64 0, .int .i64 0, .int .i64 0, .int .i64 5, .int .i64 0, .int .i64 0, .int .i64 32768, .int .i64 0, .int .i64 97, .int .i64 11, .int .i64 0, .int .i64 0, .int .i64 0, .int .i64 215, .int .i64 0, .int .i64 0, .int .i64 0, .int .i64 16, .int .i64 6, .int .i64 0, .int .i64 0, .int .i64 0, .int .i64 0, .int .i64 143, .int .i64 0, .int .i64 0, .int .i64 0, .int .i64 0, .int .i64 219, .int .i64 0, .int .i64 0, .int .i64 0, .int .i64 2, .int .i64 219, .int .i64 0, .int .i64 10, .int .i64 0, .int .i64 1, .int .i64 219, .int .i64 0, .int .i64 10, .int .i64 0, .int .i64 0, .int .i64 212, .int .i64 0, .int .i64 0, .int .i64 0, .int .i64 8, .int .i64 183, .int .i64 0, .int .i64 0, .int .i64 0, .int .i64 2147483648, .int .i64 256, .int .i64 0, .int .i64 0, .int .i64 0, .int .i64 0, .int .i64 (-1), .int .i64 0, .int .i64 0, .int .i64 0, .int .i64 0, .int .i64 123, .int .i64 10, .int .i64 0, .int .i64 0, .int .i64 1, .int .i64 191, .int .i64 0, .int .i64 (-1), .int .i64 0, .int .i64 0] 23)).heap.size = w.heap.size + 1 := by simp
  have hbw : Below w.heap.size w (w.alloc (.cells #[.int .i64 149, .int .i64 0, .int .i64 0, .int .i64 0, .int .i64 1, .int .i64 103, .int .i64 1, .int .i64 0, .int .i64 0, .int .i64 64, .int .i64 100, .int .i64 1, .int .i64 0, .int .i64 0, .int .i64 32, .int .i64 24, .int .i64 0, .int .i64 2, .int .i64 0, .int .i64 0, .int .i64 24, .int .i64 0, .int .i64 1, .int .i64 0, .int .i64 (-1), .int .i64 24, .int .i64 10, .int .i64 0, .int .i64 0, .int .i64 0, .int .i64 5, .int .i64 0, .int .i64 0, .int .i64 32768, .int .i64 0, .int .i64 97, .int .i64 11, .int .i64 0, .int .i64 0, .int .i64 0, .int .i64 215, .int .i64 0, .int .i64 0, .int .i64 0, .int .i64 16, .int .i64 6, .int .i64 0, .int .i64 0, .int .i64 0, .int .i64 0, .int .i64 143, .int .i64 0, .int .i64 0, .int .i64 0, .int .i64 0, .int .i64 219, .int .i64 0, .int .i64 0, .int .i64 0, .int .i64 2, .int .i64 219, .int .i64 0, .int .i64 10, .int .i64 0, .int .i64 1, .int .i64 219, .int .i64 0, .int .i64 10, .int .i64 0, .int .i64 0, .int .i64 212, .int .i64 0, .int .i64 0, .int .i64 0, .int .i64 8, .int .i64 183, .int .i64 0, .int .i64 0, .int .i64 0, .int .i64 2147483648, .int .i64 256, .int .i64 0, .int .i64 0, .int .i64 0, .int .i64 0, .int .i64 (-1), .int .i64 0, .int .i64 0, .int .i64 0, .int .i64 0, .int .i64 123, .int .i64 10, .int .i64 0, .int .i64 0, .int .i64 1, .int .i64 191, .int .i64 0, .int .i64 (-1), .int .i64 0, .int .i64 0] 23)) := below_new w _
  generalize w.alloc (.cells #[.int .i64 149, .int .i64 0, .int .i64 0, .int .i64 0, .int .i64 1, .int .i64 103, .int .i64 1, .int .i64 0, .int .i64 0, .int .i64 64, .int .i64 100, .int .i64 1, .int .i64 0, .int .i64 0, .int .i64 32, .int .i64 24, .int .i64 0, .int .i64 2, .int .i64 0, .int .i64 0, .int .i64 24, .int .i64 0, .int .i64 1, .int .i64 0, .int .i64 (-1), .int .i64 24, .int .i64 10, .int .i64 0, .int .i64 0, .int .i64 0, .int .i64 5, .int .i64 0, .int .i64 0, .int .i64 32768, .int .i64 0, .int .i64 97, .int .i64 11, .int .i64 0, .int .i64 0, .int .i64 0, .int .i64 215, .int .i64 0, .int .i64 0, .int .i64 0, .int .i64 16, .int .i64 6, .int .i64 0, .int .i64 0, .int .i64 0, .int .i64 0, .int .i64 143, .int .i64 0, .int .i64 0, .int .i64 0, .int .i64 0, .int .i64 219, .int .i64 0, .int .i64 0, .int .i64 0, .int .i64 2, .int .i64 219, .int .i64 0, .int .i64 10, .int .i64 0, .int .i64 1, .int .i64 219, .int .i64 0, .int .i64 10, .int .i64 0, .int .i64 0, .int .i64 212, .int .i64 0, .int .i64 0, .int .i64 0, .int .i64 8, .int .i64 183, .int .i64 0, .int .i64 0, .int .i64 0, .int .i64 2147483648, .int .i64 256, .int .i64 0, .int .i64 0, .int .i64 0, .int .i64 0, .int .i64 (-1), .int .i64 0, .int .i64 0, .int .i64 0, .int .i64 0, .int .i64 123, .int .i64 10, .int .i64 0, .int .i64 0, .int .i64 1, .int .i64 191, .int .i64 0, .int .i64 (-1), .int .i64 0, .int .i64 0] 23) = W at h1 e hbw ⊢
  have h2 := World.ownsRow_lit (base := W.heap.size) (e := 26) (size := 1) W #[.int .i64 9, .int .i64 10, .int .i64 10, .int .i64 9, .int .i64 10, .int .i64 8, .int .i64 10, .int .i64 8, .int .i64 7, .int .i64 7, .int .i64 7, .int .i64 10, .int .i64 8, .int .i64 0, .int .i64 10, .int .i64 10, .int .i64 7, .int .i64 7, .int .i64 9, .int .i64 8] 20 (Nat.le_refl _) (by unfold maxLen; omega) rfl
  have h1' : W.ownsRow w.heap.size 23 5 (.slice (some ⟨w.heap.size, 0, none⟩) 20 20) 20 (VN badL) := h1
  have h2' : (W.alloc (.cells #[.int .i64 9, .int .i64 10, .int .i64 10, .int .i64 9, .int .i64 10, .int .i64 8, .int .i64 10, .int .i64 8, .int .i64 7, .int .i64 7, .int .i64 7, .int .i64 10, .int .i64 8, .int .i64 0, .int .i64 10, .int .i64 10, .int .i64 7, .int .i64 7, .int .i64 9, .int .i64 8] 26)).ownsRow W.heap.size 26 1 (.slice (some ⟨W.heap.size, 0, none⟩) 20 20) 20 (wantL.map fun z => .int .i64 z) := h2
  have hb : Below W.heap.size W (W.alloc (.cells #[.int .i64 9, .int .i64 10, .int .i64 10, .int .i64 9, .int .i64 10, .int .i64 8, .int .i64 10, .int .i64 8, .int .i64 7, .int .i64 7, .int .i64 7, .int .i64 10, .int .i64 8, .int .i64 0, .int .i64 10, .int .i64 10, .int .i64 7, .int .i64 7, .int .i64 9, .int .i64 8] 26)) := below_new W _
  have hs : (W.alloc (.cells #[.int .i64 9, .int .i64 10, .int .i64 10, .int .i64 9, .int .i64 10, .int .i64 8, .int .i64 10, .int .i64 8, .int .i64 7, .int .i64 7, .int .i64 7, .int .i64 10, .int .i64 8, .int .i64 0, .int .i64 10, .int .i64 10, .int .i64 7, .int .i64 7, .int .i64 9, .int .i64 8] 26)).heap.size = W.heap.size + 1 := by simp
  refine ⟨(nrow_own h1').below hb (by omega), fun i hi => ?_, by omega, by omega, hbw.trans (hb.mono (by omega))⟩
  have t := h2'.cellAt i (by omega)
  rw [← e, t, List.getElem?_map, List.getD_eq_getElem?_getD, List.getElem?_eq_getElem (show i < wantL.length from hi)]
  rfl
theorem rs_new {b c k : Nat} {x : In} {q : Int} {U w : World} (hx : badL[k]? = some x) (hq : wantL.getD k 0 = q) (hk : k < 20) (h : TS b c U w) :
    w.cell? ⟨b, k * 5, none⟩ = some (.int .i64 x.op) ∧ w.cell? ⟨b, k * 5 + 1, none⟩ = some (.int .i64 x.d) ∧ w.cell? ⟨b, k * 5 + 2, none⟩ = some (.int .i64 x.s) ∧ w.cell? ⟨b, k * 5 + 3, none⟩ = some (.int .i64 x.o) ∧ w.cell? ⟨b, k * 5 + 4, none⟩ = some (.int .i64 x.m) ∧ w.cell? ⟨c, k, none⟩ = some (.int .i64 q) ∧ TS b c U w := by
  obtain ⟨d0, d1, d2, d3, d4⟩ := h.1 k x hx
  rw [Nat.zero_add] at d0 d1 d2 d3 d4
  exact ⟨d0, d1, d2, d3, d4, by rw [← hq]; exact h.2.1 k hk, h⟩
theorem rs_check {b c k : Nat} {op d s o m q : Int} {U w : World} (hx : badL[k]? = some ⟨op, d, s, o, m⟩) (hq : wantL.getD k 0 = q) (hk : k < 20)
    (h : w.cell? ⟨b, k * 5, none⟩ = some (.int .i64 op) ∧ w.cell? ⟨b, k * 5 + 1, none⟩ = some (.int .i64 d) ∧ w.cell? ⟨b, k * 5 + 2, none⟩ = some (.int .i64 s) ∧ w.cell? ⟨b, k * 5 + 3, none⟩ = some (.int .i64 o) ∧ w.cell? ⟨b, k * 5 + 4, none⟩ = some (.int .i64 m) ∧ w.cell? ⟨c, k, none⟩ = some (.int .i64 q) ∧ TS b c U w) :
    Calls Try.prog 11 #[.agg #[.int .i64 op, .int .i64 d, .int .i64 s, .int .i64 o, .int .i64 m]] w fun e w => e = .returned (.int .i64 q) ∧ (w.cell? ⟨b, k * 5, none⟩ = some (.int .i64 op) ∧ w.cell? ⟨b, k * 5 + 1, none⟩ = some (.int .i64 d) ∧ w.cell? ⟨b, k * 5 + 2, none⟩ = some (.int .i64 s) ∧ w.cell? ⟨b, k * 5 + 3, none⟩ = some (.int .i64 o) ∧ w.cell? ⟨b, k * 5 + 4, none⟩ = some (.int .i64 m) ∧ w.cell? ⟨c, k, none⟩ = some (.int .i64 q) ∧ TS b c U w) := by
  obtain ⟨_, hc, hw⟩ := bad_at hx
  have t := dcheck_any op d s o m w hw
  rw [show chkD op d s o m = q from hc.trans hq] at t
  exact t.mono fun e w' ht => ⟨ht.1, rs_new hx hq hk (h.2.2.2.2.2.2.up ht.2)⟩
theorem rs_drew {b c k : Nat} {op d s o m q : Int} {U w : World} (h : w.cell? ⟨b, k * 5, none⟩ = some (.int .i64 op) ∧ w.cell? ⟨b, k * 5 + 1, none⟩ = some (.int .i64 d) ∧ w.cell? ⟨b, k * 5 + 2, none⟩ = some (.int .i64 s) ∧ w.cell? ⟨b, k * 5 + 3, none⟩ = some (.int .i64 o) ∧ w.cell? ⟨b, k * 5 + 4, none⟩ = some (.int .i64 m) ∧ w.cell? ⟨c, k, none⟩ = some (.int .i64 q) ∧ TS b c U w) :
    w.drew.cell? ⟨b, k * 5, none⟩ = some (.int .i64 op) ∧ w.drew.cell? ⟨b, k * 5 + 1, none⟩ = some (.int .i64 d) ∧ w.drew.cell? ⟨b, k * 5 + 2, none⟩ = some (.int .i64 s) ∧ w.drew.cell? ⟨b, k * 5 + 3, none⟩ = some (.int .i64 o) ∧ w.drew.cell? ⟨b, k * 5 + 4, none⟩ = some (.int .i64 m) ∧ w.drew.cell? ⟨c, k, none⟩ = some (.int .i64 q) ∧ TS b c U w.drew :=
  ⟨h.1, h.2.1, h.2.2.1, h.2.2.2.1, h.2.2.2.2.1, h.2.2.2.2.2.1, h.2.2.2.2.2.2.1, h.2.2.2.2.2.2.2.1, h.2.2.2.2.2.2.2.2.1, h.2.2.2.2.2.2.2.2.2.1, h.2.2.2.2.2.2.2.2.2.2.drew⟩
theorem rep_snoc (k : Nat) : VN (List.replicate k xE) ++ [.int .i64 149, .int .i64 0, .int .i64 0, .int .i64 0, .int .i64 0] = VN (List.replicate (k + 1) xE) := by
  rw [List.replicate_succ', VN_append]; rfl
theorem rep_putErr : putErr (List.replicate 257 xE) = 19 := by unfold putErr; rw [if_pos (by rw [List.length_replicate]; omega)]
end Go.Proofs.Ytccjfnkneiggcaa.Insn
