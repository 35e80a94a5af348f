/-
  Plain facts on where instructions go on: places, targets, successors, what is reached.
-/
import Derived.Test.YtpknnmnknaaccaaFlL
namespace Go.Proofs.Ytpknnmnknaaccaa.Flow
open Go.RowKit Go.Proofs.Ytpknnmnknaaccaa.Num Go.Proofs.Ytpknnmnknaaccaa.Insn
def In0 : In := ⟨0, 0, 0, 0, 0⟩
def sz (x : In) : Nat := if x.op = 24 then 2 else 1
theorem sz_pos (x : In) : 1 ≤ sz x ∧ sz x ≤ 2 := by unfold sz; split <;> omega
def plc (l : List In) (k : Nat) : Nat := ((l.take k).map sz).sum
theorem plc_zero (l : List In) : plc l 0 = 0 := by simp [plc]
theorem plc_succ {l : List In} {k : Nat} {x : In} (h : l[k]? = some x) : plc l (k + 1) = plc l k + sz x := by
  obtain ⟨hk, e⟩ := List.getElem?_eq_some_iff.1 h
  unfold plc
  rw [List.take_succ_eq_append_getElem hk, List.map_append, List.sum_append, e]
  simp
theorem plc_step (l : List In) (k : Nat) (hk : k < l.length) : plc l k + 1 ≤ plc l (k + 1) ∧ plc l (k + 1) ≤ plc l k + 2 := by
  rw [plc_succ (List.getElem?_eq_getElem hk)]
  have := sz_pos l[k]
  omega
theorem plc_le (l : List In) (k : Nat) (hk : k ≤ l.length) : plc l k ≤ 2 * k := by
  induction k with
  | zero => rw [plc_zero]; omega
  | succ k ih => have := ih (by omega); have := plc_step l k (by omega); omega
theorem plc_lt (l : List In) {i j : Nat} (h : i < j) (hj : j ≤ l.length) : plc l i < plc l j := by
  induction j with
  | zero => omega
  | succ j ih =>
    have := plc_step l j (by omega)
    by_cases e : i = j
    · subst e; omega
    · have := ih (by omega) (by omega); omega
theorem plc_inj (l : List In) {i j : Nat} (hi : i ≤ l.length) (hj : j ≤ l.length) (h : plc l i = plc l j) : i = j := by
  by_cases e : i < j
  · have := plc_lt l e hj; omega
  · by_cases e' : j < i
    · have := plc_lt l e' hi; omega
    · omega
def jmpB (op : Int) : Bool := (op % 8 == 5 || op % 8 == 6) && (op != 133 && op != 149)
/-- The instruction of that index. -/
def at' (l : List In) (i : Nat) : In := l.getD i In0
theorem at_some {l : List In} {i : Nat} {x : In} (h : l[i]? = some x) : at' l i = x := by unfold at'; rw [List.getD_eq_getElem?_getD, h]; rfl
def wantP (l : List In) (i : Nat) : Int := (plc l i : Int) + 1 + (at' l i).o
/-- The index of the instruction at a place. -/
def findP (l : List In) (want : Int) : Option Nat := (List.range l.length).find? fun k => (plc l k : Int) == want
theorem findP_some {l : List In} {want : Int} {k : Nat} (h : findP l want = some k) : k < l.length ∧ (plc l k : Int) = want := by
  unfold findP at h
  have h1 := List.find?_some h
  have h2 := List.mem_of_find?_eq_some h
  exact ⟨by simpa using h2, by simpa using h1⟩
theorem findP_at {l : List In} {want : Int} {k : Nat} (hk : k < l.length) (h : (plc l k : Int) = want) : findP l want = some k := by
  cases e : findP l want with
  | none =>
    unfold findP at e
    have := List.find?_eq_none.1 e k (by simpa using hk)
    simp [h] at this
  | some j =>
    obtain ⟨h1, h2⟩ := findP_some e
    rw [plc_inj l (by omega) (by omega) (show plc l j = plc l k by omega)]
theorem findP_none {l : List In} {want : Int} (h : findP l want = none) (k : Nat) (hk : k < l.length) : (plc l k : Int) ≠ want := by
  intro e
  rw [findP_at hk e] at h; cases h
def orNo : Option Nat → Int
  | some k => (k : Int)
  | none => -1
/-- The target of an instruction: -1 of what has none. -/
def tgI (l : List In) (i : Nat) : Int := if jmpB (at' l i).op then orNo (findP l (wantP l i)) else -1
def tgL (l : List In) : List Int := (List.range l.length).map (tgI l)
theorem tgL_length (l : List In) : (tgL l).length = l.length := by simp [tgL]
theorem tgL_get (l : List In) (i : Nat) (h : i < l.length) : (tgL l).getD i 0 = tgI l i := by
  unfold tgL; rw [List.getD_eq_getElem?_getD]; simp [h]
theorem orNo_lt {l : List In} {want : Int} : -1 ≤ orNo (findP l want) ∧ orNo (findP l want) < l.length := by
  cases e : findP l want with
  | none => simp only [orNo]; omega
  | some k => have := findP_some e; simp only [orNo]; omega
theorem tgI_range (l : List In) (i : Nat) : -1 ≤ tgI l i ∧ tgI l i < l.length := by
  unfold tgI
  split
  · exact orNo_lt
  · omega
/-- Does each jump come down? -/
def landB (l : List In) : Bool := (List.range l.length).all fun i => !jmpB (at' l i).op || decide (0 ≤ tgI l i)
theorem landB_iff (l : List In) : landB l = true ↔ ∀ i, i < l.length → jmpB (at' l i).op = true → 0 ≤ tgI l i := by
  unfold landB
  rw [List.all_eq_true]
  constructor
  · intro h i hi hj
    have := h i (by simpa using hi)
    rw [hj] at this
    simpa using this
  · intro h i hi
    cases hj : jmpB (at' l i).op
    · rfl
    · simpa using h i (by simpa using hi) hj
/-- To what an instruction goes on, told its target. -/
def nxI (op : Int) (i t : Int) : List Int := if op = 149 then [] else if op = 5 then [t] else if jmpB op then (if t = i + 1 then [i + 1] else [i + 1, t]) else [i + 1]
def fallB (l : List In) : Bool := (at' l (l.length - 1)).op != 149 && (at' l (l.length - 1)).op != 5
def nxt (l : List In) (i : Nat) : List Nat := (nxI (at' l i).op i (tgI l i)).map Int.toNat
/-- Is it good so far: each jump comes down, and the last one does not fall out? -/
structure Sound (l : List In) : Prop where
  land : landB l = true
  fall : fallB l = false
  pos : 0 < l.length
theorem jmp5 : jmpB 5 = true := rfl
theorem jmp149 : jmpB 149 = false := rfl
theorem nxI_mem {l : List In} (h : Sound l) {i : Nat} (hi : i < l.length) {z : Int} (hz : z ∈ nxI (at' l i).op i (tgI l i)) : 0 ≤ z ∧ z < l.length := by
  have hr := tgI_range l i
  have hl := (landB_iff l).1 h.land i hi
  have hf : i + 1 < l.length ∨ (at' l i).op = 149 ∨ (at' l i).op = 5 := by
    by_cases e : i + 1 < l.length
    · exact Or.inl e
    · right
      have hf := h.fall
      unfold fallB at hf
      rw [show l.length - 1 = i by omega] at hf
      simp only [Bool.and_eq_false_iff, bne_eq_false_iff_eq] at hf
      exact hf
  unfold nxI at hz
  split at hz
  · simp at hz
  · rename_i h1
    split at hz
    · rename_i h2
      have := hl (by rw [h2]; rfl)
      simp at hz; omega
    · rename_i h2
      split at hz
      · rename_i h3
        have := hl h3
        split at hz
        · simp at hz; omega
        · simp at hz; omega
      · simp at hz; omega
theorem nxt_lt {l : List In} (h : Sound l) {i : Nat} (hi : i < l.length) {j : Nat} (hj : j ∈ nxt l i) : j < l.length := by
  unfold nxt at hj
  obtain ⟨z, hz, rfl⟩ := List.mem_map.1 hj
  have := nxI_mem h hi hz
  omega
theorem nxI_len (op i t : Int) : (nxI op i t).length ≤ 2 ∧ ((nxI op i t).length = 0 ↔ op = 149) := by
  unfold nxI
  split
  · rename_i h; simp [h]
  · rename_i h
    split
    · simp [h]
    · split
      · split <;> simp [h]
      · simp [h]
/-! ### What is reached -/
inductive Reach (nx : Nat → List Nat) : Nat → Prop
  | zero : Reach nx 0
  | step {i j : Nat} : Reach nx i → j ∈ nx i → Reach nx j
def markR (nx : Nat → List Nat) (s : List Bool) (i : Nat) : List Bool := if s.getD i false then (nx i).foldl (fun s j => s.set j true) s else s
def roundR (nx : Nat → List Nat) (n : Nat) (s : List Bool) : List Bool := (List.range n).foldl (markR nx) s
def iterR (nx : Nat → List Nat) (n : Nat) : Nat → List Bool → List Bool
  | 0, s => s
  | k + 1, s => roundR nx n (iterR nx n k s)
def startR (n : Nat) : List Bool := (List.replicate n false).set 0 true
def refR (nx : Nat → List Nat) (n : Nat) : List Bool := iterR nx n n (startR n)
/-- s is in t. -/
def Le (s t : List Bool) : Prop := s.length = t.length ∧ ∀ i, s.getD i false = true → t.getD i false = true
theorem Le.refl (s : List Bool) : Le s s := ⟨rfl, fun _ h => h⟩
theorem Le.trans {s t u : List Bool} (h : Le s t) (k : Le t u) : Le s u := ⟨h.1.trans k.1, fun i hi => k.2 i (h.2 i hi)⟩
theorem getD_set (s : List Bool) (i j : Nat) (b : Bool) : (s.set j b).getD i false = if j = i ∧ i < s.length then b else s.getD i false := by
  rw [List.getD_eq_getElem?_getD, List.getD_eq_getElem?_getD, List.getElem?_set]
  by_cases e : j = i
  · subst e
    by_cases h : j < s.length
    · simp [h]
    · simp [h]
  · simp [e]
theorem le_set (s : List Bool) (j : Nat) : Le s (s.set j true) := ⟨by simp, fun i hi => by rw [getD_set]; split <;> simp_all⟩
theorem set_mem {s : List Bool} {j i : Nat} (h : (s.set j true).getD i false = true) : i = j ∨ s.getD i false = true := by
  rw [getD_set] at h
  split at h
  · left; omega
  · right; exact h
theorem le_fold (js : List Nat) : ∀ s : List Bool, Le s (js.foldl (fun s j => s.set j true) s) := by
  induction js with
  | nil => intro s; exact Le.refl s
  | cons j js ih => intro s; exact (le_set s j).trans (ih _)
theorem fold_mem (js : List Nat) : ∀ (s : List Bool) (i : Nat), (js.foldl (fun s j => s.set j true) s).getD i false = true → i ∈ js ∨ s.getD i false = true := by
  induction js with
  | nil => intro s i h; exact Or.inr h
  | cons j js ih =>
    intro s i h
    rcases ih _ i h with h' | h'
    · exact Or.inl (List.mem_cons_of_mem _ h')
    · rcases set_mem h' with h'' | h''
      · subst h''; exact Or.inl List.mem_cons_self
      · exact Or.inr h''
theorem fold_has (js : List Nat) : ∀ (s : List Bool) (i : Nat), i ∈ js → i < s.length → (js.foldl (fun s j => s.set j true) s).getD i false = true := by
  induction js with
  | nil => intro s i h; cases h
  | cons j js ih =>
    intro s i h hi
    rcases List.mem_cons.1 h with rfl | h'
    · exact (le_fold js _).2 i (by rw [getD_set, if_pos ⟨rfl, hi⟩])
    · exact ih _ i h' (by simpa using hi)
theorem le_mark (nx : Nat → List Nat) (s : List Bool) (i : Nat) : Le s (markR nx s i) := by
  unfold markR
  split
  · exact le_fold _ s
  · exact Le.refl s
theorem le_marks (nx : Nat → List Nat) (is : List Nat) : ∀ s, Le s (is.foldl (markR nx) s) := by
  induction is with
  | nil => intro s; exact Le.refl s
  | cons i is ih => intro s; exact (le_mark nx s i).trans (ih _)
theorem le_round (nx : Nat → List Nat) (n : Nat) (s : List Bool) : Le s (roundR nx n s) := le_marks nx _ s
def AllIn (nx : Nat → List Nat) (s : List Bool) : Prop := ∀ i, s.getD i false = true → Reach nx i
theorem mark_in {nx : Nat → List Nat} {s : List Bool} (h : AllIn nx s) (i : Nat) : AllIn nx (markR nx s i) := by
  intro j hj
  unfold markR at hj
  split at hj
  · rename_i hi
    rcases fold_mem _ _ _ hj with h' | h'
    · exact Reach.step (h i hi) h'
    · exact h j h'
  · exact h j hj
theorem marks_in {nx : Nat → List Nat} (is : List Nat) : ∀ {s : List Bool}, AllIn nx s → AllIn nx (is.foldl (markR nx) s) := by
  induction is with
  | nil => intro s h; exact h
  | cons i is ih => intro s h; exact ih (mark_in h i)
theorem iter_in {nx : Nat → List Nat} (n k : Nat) {s : List Bool} (h : AllIn nx s) : AllIn nx (iterR nx n k s) := by
  induction k with
  | zero => exact h
  | succ k ih => exact marks_in _ ih
/-- Closed: what is in it goes on within it. -/
def Closed (nx : Nat → List Nat) (n : Nat) (s : List Bool) : Prop := ∀ i, i < n → s.getD i false = true → ∀ j ∈ nx i, s.getD j false = true
theorem marks_has {nx : Nat → List Nat} {n : Nat} (is : List Nat) : ∀ {s : List Bool}, s.length = n → (∀ i ∈ is, ∀ j ∈ nx i, j < n) → ∀ i ∈ is, s.getD i false = true → ∀ j ∈ nx i, (is.foldl (markR nx) s).getD j false = true := by
  induction is with
  | nil => intro s _ _ i h; cases h
  | cons a is ih =>
    intro s hs hn i hi hsi j hj
    have hle := le_mark nx s a
    rcases List.mem_cons.1 hi with rfl | hi'
    · refine (le_marks nx is _).2 j ?_
      unfold markR
      rw [if_pos hsi]
      exact fold_has _ _ _ hj (by rw [hs]; exact hn i List.mem_cons_self j hj)
    · exact ih (hle.1.symm.trans hs) (fun k hk => hn k (List.mem_cons_of_mem _ hk)) i hi' (hle.2 i hsi) j hj
theorem round_same {nx : Nat → List Nat} {n : Nat} {s : List Bool} (hs : s.length = n) (hn : ∀ i, i < n → ∀ j ∈ nx i, j < n) (h : roundR nx n s = s) : Closed nx n s := by
  intro i hi hsi j hj
  have := marks_has (nx := nx) (List.range n) hs (fun k hk => hn k (by simpa using hk)) i (by simpa using hi) hsi j hj
  unfold roundR at h
  rw [h] at this
  exact this
theorem le_count : ∀ {s t : List Bool}, Le s t → s.count true ≤ t.count true ∧ (s.count true = t.count true → s = t)
  | [], [], _ => ⟨Nat.le_refl _, fun _ => rfl⟩
  | [], _ :: _, h => by have := h.1; simp at this
  | _ :: _, [], h => by have := h.1; simp at this
  | a :: s, b :: t, h => by
    have h' : Le s t := ⟨by have := h.1; simpa using this, fun i hi => by have := h.2 (i + 1) (by simpa using hi); simpa using this⟩
    obtain ⟨i1, i2⟩ := le_count h'
    have h0 : a = true → b = true := fun e => by have := h.2 0 (by simpa using e); simpa using this
    cases a <;> cases b
    · simp; exact ⟨i1, i2⟩
    · simp; exact ⟨by omega, fun e => by omega⟩
    · exact absurd (h0 rfl) (by simp)
    · simp; exact ⟨i1, i2⟩
theorem iter_le (nx : Nat → List Nat) (n k : Nat) (s : List Bool) : Le s (iterR nx n k s) := by
  induction k with
  | zero => exact Le.refl s
  | succ k ih => exact ih.trans (le_round nx n _)
theorem iter_count {nx : Nat → List Nat} {n : Nat} {s : List Bool} (hs : s.length = n) (hn : ∀ i, i < n → ∀ j ∈ nx i, j < n) (k : Nat) : Closed nx n (iterR nx n k s) ∨ s.count true + k ≤ (iterR nx n k s).count true := by
  induction k with
  | zero => exact Or.inr (Nat.le_refl _)
  | succ k ih =>
    have hl : (iterR nx n k s).length = n := (iter_le nx n k s).1.symm.trans hs
    have hr := le_count (le_round nx n (iterR nx n k s))
    by_cases e : (iterR nx n k s).count true = (roundR nx n (iterR nx n k s)).count true
    · left
      have e' := hr.2 e
      have := round_same hl hn e'.symm
      show Closed nx n (roundR nx n (iterR nx n k s))
      rw [← e']
      exact this
    · rcases ih with h | h
      · left
        show Closed nx n (roundR nx n (iterR nx n k s))
        have : roundR nx n (iterR nx n k s) = iterR nx n k s := by
          unfold roundR
          have key : ∀ (is : List Nat), (∀ i ∈ is, i < n) → is.foldl (markR nx) (iterR nx n k s) = iterR nx n k s := by
            intro is
            induction is with
            | nil => intro _; rfl
            | cons i is ihh =>
              intro hi
              have hm : markR nx (iterR nx n k s) i = iterR nx n k s := by
                unfold markR
                split
                · rename_i hsi
                  have hc := h i (hi i List.mem_cons_self) hsi
                  have fk : ∀ (js : List Nat), (∀ j ∈ js, (iterR nx n k s).getD j false = true) → js.foldl (fun s j => s.set j true) (iterR nx n k s) = iterR nx n k s := by
                    intro js
                    induction js with
                    | nil => intro _; rfl
                    | cons j js ihj =>
                      intro hj
                      have : (iterR nx n k s).set j true = iterR nx n k s := by
                        have h0 := hj j List.mem_cons_self
                        rw [List.getD_eq_getElem?_getD] at h0
                        apply List.ext_getElem?
                        intro m
                        rw [List.getElem?_set]
                        split
                        · rename_i e1; subst e1
                          split
                          · rename_i h1
                            simp [h1] at h0
                            simp [h1, h0]
                          · rename_i h1
                            simp [h1]
                        · rfl
                      rw [List.foldl_cons, this]
                      exact ihj fun m hm => hj m (List.mem_cons_of_mem _ hm)
                  exact fk _ hc
                · rfl
              rw [List.foldl_cons, hm]
              exact ihh fun m hm => hi m (List.mem_cons_of_mem _ hm)
          exact key _ fun i hi => by simpa using hi
        rw [this]
        exact h
      · right
        show _ ≤ (roundR nx n (iterR nx n k s)).count true
        omega
theorem startR_length (n : Nat) : (startR n).length = n := by simp [startR]
theorem startR_get (n i : Nat) : (startR n).getD i false = true ↔ i = 0 ∧ 0 < n := by
  unfold startR
  rw [getD_set]
  by_cases e : 0 = i ∧ i < (List.replicate n false).length
  · rw [if_pos e]; simp at e ⊢; omega
  · rw [if_neg e, List.getD_eq_getElem?_getD, List.getElem?_replicate]
    simp at e ⊢
    split <;> simp <;> omega
theorem closed_all {nx : Nat → List Nat} {n : Nat} {s : List Bool} (hn : ∀ i, i < n → ∀ j ∈ nx i, j < n) (hp : 0 < n) (h0 : s.getD 0 false = true) (hc : Closed nx n s) {i : Nat} (hi : Reach nx i) : i < n ∧ s.getD i false = true := by
  induction hi with
  | zero => exact ⟨hp, h0⟩
  | step _ hj ih => exact ⟨hn _ ih.1 _ hj, hc _ ih.1 ih.2 _ hj⟩
theorem refR_spec {nx : Nat → List Nat} {n : Nat} (hn : ∀ i, i < n → ∀ j ∈ nx i, j < n) (hp : 0 < n) : (refR nx n).length = n ∧ ∀ i, (refR nx n).getD i false = true ↔ Reach nx i := by
  have hl : (refR nx n).length = n := (iter_le nx n n (startR n)).1.symm.trans (startR_length n)
  have h0 : (refR nx n).getD 0 false = true := (iter_le nx n n (startR n)).2 0 ((startR_get n 0).2 ⟨rfl, hp⟩)
  have hin : AllIn nx (refR nx n) := iter_in n n fun i hi => by
    obtain ⟨rfl, _⟩ := (startR_get n i).1 hi
    exact Reach.zero
  have hc : Closed nx n (refR nx n) := by
    rcases iter_count (startR_length n) hn n with h | h
    · exact h
    · have h1 : 1 ≤ (startR n).count true := by
        rw [Nat.one_le_iff_ne_zero, ← Nat.pos_iff_ne_zero, List.count_pos_iff]
        unfold startR
        cases n with
        | zero => omega
        | succ n => simp [List.replicate_succ]
      have h2 : (iterR nx n n (startR n)).count true ≤ (iterR nx n n (startR n)).length := List.count_le_length
      have h3 : (iterR nx n n (startR n)).length = n := hl
      omega
  exact ⟨hl, fun i => ⟨hin i, fun h => (closed_all hn hp h0 hc h).2⟩⟩
theorem refR_ext {nx : Nat → List Nat} {n : Nat} (hn : ∀ i, i < n → ∀ j ∈ nx i, j < n) (hp : 0 < n) {s : List Bool} (hs : s.length = n) (h : ∀ i, i < n → (s.getD i false = true ↔ Reach nx i)) : s = refR nx n := by
  obtain ⟨h1, h2⟩ := refR_spec hn hp
  apply List.ext_getElem (by omega)
  intro i hi hi'
  have a := h i (by omega)
  have b := h2 i
  rw [← b] at a
  simp only [List.getD_eq_getElem?_getD, List.getElem?_eq_getElem hi, List.getElem?_eq_getElem hi', Option.getD_some] at a
  exact Bool.eq_iff_iff.2 a
/-! ### The answer -/
def deadB (l : List In) : Bool := !((refR (nxt l) l.length).all id)
def errF (l : List In) : Int := if 256 < l.length then 19 else if l.length = 0 then 12 else if landB l = false then 11 else if fallB l = true then 12 else if deadB l = true then 13 else 0
def outF (l : List In) : List Int := if errF l = 0 then tgL l else []
theorem errF_ok {l : List In} (h : errF l = 0) : Sound l ∧ l.length ≤ 256 ∧ ∀ i, i < l.length → Reach (nxt l) i := by
  unfold errF at h
  split at h
  · omega
  rename_i h1
  split at h
  · omega
  rename_i h2
  split at h
  · omega
  rename_i h3
  split at h
  · omega
  rename_i h4
  split at h
  · omega
  rename_i h5
  have hS : Sound l := ⟨by simpa using h3, by simpa using h4, by omega⟩
  refine ⟨hS, by omega, fun i hi => ?_⟩
  obtain ⟨a, b⟩ := refR_spec (nx := nxt l) (fun i hi j hj => nxt_lt hS hi hj) hS.pos
  rw [← b]
  unfold deadB at h5
  simp only [Bool.not_eq_true, Bool.not_eq_false', List.all_eq_true] at h5
  have := h5 ((refR (nxt l) l.length)[i]'(by omega)) (List.getElem_mem _)
  rw [List.getD_eq_getElem?_getD, List.getElem?_eq_getElem (by omega)]
  simpa using this
theorem dead_iff {l : List In} (hS : Sound l) : deadB l = false ↔ ∀ i, i < l.length → Reach (nxt l) i := by
  obtain ⟨a, b⟩ := refR_spec (nx := nxt l) (fun i hi j hj => nxt_lt hS hi hj) hS.pos
  unfold deadB
  simp only [Bool.not_eq_false', List.all_eq_true]
  constructor
  · intro h i hi
    rw [← b, List.getD_eq_getElem?_getD, List.getElem?_eq_getElem (by omega)]
    simpa using h _ (List.getElem_mem (by omega))
  · intro h x hx
    obtain ⟨i, hi, rfl⟩ := List.mem_iff_getElem.1 hx
    have := (b i).2 (h i (by omega))
    rw [List.getD_eq_getElem?_getD, List.getElem?_eq_getElem hi] at this
    simpa using this
theorem outF_ok {l : List In} (h : errF l = 0) : outF l = tgL l := by unfold outF; rw [if_pos h]
theorem outF_err {l : List In} (h : errF l ≠ 0) : outF l = [] := by unfold outF; rw [if_neg h]
end Go.Proofs.Ytpknnmnknaaccaa.Flow
