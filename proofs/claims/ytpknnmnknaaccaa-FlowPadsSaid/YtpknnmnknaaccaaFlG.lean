/-
  The contract of flow's reached: a closure that calls itself goes through all that the first instruction leads to.
-/
import Derived.Test.YtpknnmnknaaccaaFlD
import Derived.Test.YtpknnmnknaaccaaFlE
namespace Go.Proofs.Ytpknnmnknaaccaa.Flow
open Go.RowKit Go.Proofs.Ytpknnmnknaaccaa.Num Go.Proofs.Ytpknnmnknaaccaa.ListB Go.Proofs.Ytpknnmnknaaccaa.Insn
/-! ### Plain -/
/-- What a visit makes of what is marked: more; the instruction; of what is new, whatever holds of the instruction and goes on; what is new goes on within. -/
structure Went (nx : Nat → List Nat) (S : List Bool) (i : Nat) (T : List Bool) : Prop where
  le : Le S T
  has : T.getD i false = true
  from' : ∀ P : Nat → Prop, P i → (∀ u, P u → ∀ j ∈ nx u, P j) → ∀ v, T.getD v false = true → S.getD v false = true ∨ P v
  on : ∀ v, T.getD v false = true → S.getD v false = true ∨ ∀ j ∈ nx v, T.getD j false = true
theorem went_done {nx : Nat → List Nat} {S : List Bool} {i : Nat} (h : S.getD i false = true) : Went nx S i S := ⟨Le.refl S, h, fun _ _ _ _ hv => Or.inl hv, fun _ hv => Or.inl hv⟩
/-- Amid the loop: k of the successors are gone through. -/
structure Going (nx : Nat → List Nat) (S : List Bool) (i k : Nat) (T : List Bool) : Prop where
  le : Le (S.set i true) T
  from' : ∀ P : Nat → Prop, P i → (∀ u, P u → ∀ j ∈ nx u, P j) → ∀ v, T.getD v false = true → S.getD v false = true ∨ P v
  on : ∀ v, T.getD v false = true → (S.set i true).getD v false = true ∨ ∀ j ∈ nx v, T.getD j false = true
  done : ∀ j ∈ (nx i).take k, T.getD j false = true
theorem going_start {nx : Nat → List Nat} {S : List Bool} {i : Nat} : Going nx S i 0 (S.set i true) :=
  ⟨Le.refl _, fun P hi _ v hv => by rcases set_mem hv with rfl | h; exact Or.inr hi; exact Or.inl h, fun _ hv => Or.inl hv, fun j hj => by simp at hj⟩
theorem going_step {nx : Nat → List Nat} {S T U : List Bool} {i k j : Nat} (h : Going nx S i k T) (hj : (nx i)[k]? = some j) (hw : Went nx T j U) : Going nx S i (k + 1) U := by
  refine ⟨h.le.trans hw.le, fun P hi hP v hv => ?_, fun v hv => ?_, fun m hm => ?_⟩
  · rcases hw.from' P (hP i hi j (List.mem_of_getElem? hj)) hP v hv with h1 | h1
    · exact h.from' P hi hP v h1
    · exact Or.inr h1
  · rcases hw.on v hv with h1 | h1
    · rcases h.on v h1 with h2 | h2
      · exact Or.inl h2
      · exact Or.inr fun m hm => hw.le.2 m (h2 m hm)
    · exact Or.inr h1
  · obtain ⟨hk, e⟩ := List.getElem?_eq_some_iff.1 hj
    rw [List.take_succ_eq_append_getElem hk, List.mem_append, List.mem_singleton] at hm
    rcases hm with h1 | h1
    · exact hw.le.2 m (h.done m h1)
    · rw [h1, e]; exact hw.has
theorem going_end {nx : Nat → List Nat} {S T : List Bool} {i k : Nat} (h : Going nx S i k T) (hk : (nx i).length ≤ k) (hi : i < S.length) : Went nx S i T := by
  have hi' : T.getD i false = true := h.le.2 i (by rw [getD_set, if_pos ⟨rfl, hi⟩])
  refine ⟨(le_set S i).trans h.le, hi', fun P hP1 hP v hv => h.from' P hP1 hP v hv, fun v hv => ?_⟩
  rcases h.on v hv with h1 | h1
  · rcases set_mem h1 with rfl | h2
    · exact Or.inr fun j hj => h.done j (by rw [List.take_of_length_le hk]; exact hj)
    · exact Or.inl h2
  · exact Or.inr h1
theorem went_all {nx : Nat → List Nat} {n : Nat} {T : List Bool} (hn : ∀ i, i < n → ∀ j ∈ nx i, j < n) (hp : 0 < n) (h : Went nx (List.replicate n false) 0 T) : T = refR nx n := by
  have no : ∀ v, (List.replicate n false).getD v false = true → False := fun v hv => by
    rw [List.getD_eq_getElem?_getD, List.getElem?_replicate] at hv
    split at hv <;> simp at hv
  refine refR_ext hn hp (h.le.1.symm.trans (by simp)) fun i hi => ⟨fun hT => ?_, fun hR => ?_⟩
  · rcases h.from' (Reach nx) Reach.zero (fun u hu j hj => Reach.step hu hj) i hT with h1 | h1
    · exact (no i h1).elim
    · exact h1
  · refine (closed_all hn hp h.has (fun v _ hv j hj => ?_) hR).2
    rcases h.on v hv with h1 | h1
    · exact (no v h1).elim
    · exact h1 j hj
theorem le_false : ∀ {s t : List Bool}, Le s t → t.count false ≤ s.count false
  | [], [], _ => Nat.le_refl _
  | [], _ :: _, h => by have := h.1; simp at this
  | _ :: _, [], h => by have := h.1; simp at this
  | a :: s, b :: t, h => by
    have h' : Le s t := ⟨by have := h.1; simpa using this, fun i hi => by have := h.2 (i + 1) (by simpa using hi); simpa using this⟩
    have ih := le_false h'
    have h0 : a = true → b = true := fun e => by have := h.2 0 (by simpa using e); simpa using this
    cases a <;> cases b
    · simp; exact ih
    · simp; omega
    · exact absurd (h0 rfl) (by simp)
    · simp; exact ih
theorem set_false (S : List Bool) : ∀ i, i < S.length → S.getD i false = false → (S.set i true).count false + 1 = S.count false := by
  induction S with
  | nil => intro i h; simp at h
  | cons a S ih =>
    intro i hi h
    cases i with
    | zero =>
      have : a = false := by simpa using h
      subst this
      simp
    | succ i =>
      have := ih i (by simpa using hi) (by simpa using h)
      cases a <;> simp <;> omega
/-! ### The walk -/
/-- What the closure finds: the variables that it captured, and what they hold. -/
structure Env (w : World) (g bo bl bt bv n cap b off tb toff tc : Nat) (l : List In) : Prop where
  co : w.cell? ⟨bo, 0, none⟩ = some (.slice (some ⟨g, 0, none⟩) n n)
  cl : w.cell? ⟨bl, 0, none⟩ = some (.slice (some ⟨b, off, none⟩) n cap)
  ct : w.cell? ⟨bt, 0, none⟩ = some (.slice (some ⟨tb, toff, none⟩) n tc)
  cv : w.cell? ⟨bv, 0, none⟩ = some (.func (.func 52) #[] #[.pointer (some ⟨bo, 0, none⟩), .pointer (some ⟨bl, 0, none⟩), .pointer (some ⟨bt, 0, none⟩), .pointer (some ⟨bv, 0, none⟩)])
  so : bo < w.heap.size ∧ bo ≠ g
  sl : bl < w.heap.size ∧ bl ≠ g
  st : bt < w.heap.size ∧ bt ≠ g
  sv : bv < w.heap.size ∧ bv ≠ g
  sb : b < w.heap.size ∧ b ≠ g
  stb : tb < w.heap.size ∧ tb ≠ g
  ln : l.length = n
  rl : NRow w b off l
  rt : ∀ i, i < n → w.cell? ⟨tb, toff + i, none⟩ = some (.int .i64 ((tgL l).getD i 0))
theorem Env.up {w w' : World} {g bo bl bt bv n cap b off tb toff tc : Nat} {l : List In} (h : Env w g bo bl bt bv n cap b off tb toff tc l) (hg : w.grownBy w' (some g)) : Env w' g bo bl bt bv n cap b off tb toff tc l := by
  have far : ∀ {k o : Nat} {v : Value}, k < w.heap.size → k ≠ g → w.cell? ⟨k, o, none⟩ = some v → w'.cell? ⟨k, o, none⟩ = some v := fun hk hn hc =>
    (World.cell?_of_block (hg.block _ hk (by simpa using hn))).trans hc
  have lt : ∀ {k : Nat}, k < w.heap.size ∧ k ≠ g → k < w'.heap.size ∧ k ≠ g := fun hk => ⟨Nat.lt_of_lt_of_le hk.1 hg.size, hk.2⟩
  exact ⟨far h.so.1 h.so.2 h.co, far h.sl.1 h.sl.2 h.cl, far h.st.1 h.st.2 h.ct, far h.sv.1 h.sv.2 h.cv, lt h.so, lt h.sl, lt h.st, lt h.sv, lt h.sb, lt h.stb, h.ln,
    fun k x hx => by
      obtain ⟨c0, c1, c2, c3, c4⟩ := h.rl k x hx
      exact ⟨far h.sb.1 h.sb.2 c0, far h.sb.1 h.sb.2 c1, far h.sb.1 h.sb.2 c2, far h.sb.1 h.sb.2 c3, far h.sb.1 h.sb.2 c4⟩,
    fun i hi => far h.stb.1 h.stb.2 (h.rt i hi)⟩
def VisitPost (w : World) (base g n : Nat) (nx : Nat → List Nat) (S : List Bool) (i : Nat) (e : Ending) (w' : World) : Prop :=
  e = .returned (.tuple #[]) ∧ w.grownBy w' (some g) ∧ ∃ T, w'.ownsRow base 4 1 (.slice (some ⟨g, 0, none⟩) n n) n (VB T) ∧ Went nx S i T
theorem own_lenB {w : World} {base g n c : Nat} {S : List Bool} (h : w.ownsRow base 4 1 (.slice (some ⟨g, 0, none⟩) n c) n (VB S)) : S.length = n := by
  have := h.1; rw [VB_length] at this; omega
theorem grown_of3 {w w' : World} {r : Option Nat} (h : Below w.heap.size w w') : w.grownBy w' r := ⟨h.os, h.tape, h.output, h.size, fun k hk _ => h.block k hk⟩
theorem nxt_at (l : List In) (i : Nat) (k : Nat) (z : Int) (h : (nxI (at' l i).op i (tgI l i))[k]? = some z) : (nxt l i)[k]? = some z.toNat := by
  unfold nxt; rw [List.getElem?_map, h]; rfl
set_option maxHeartbeats 4000000 in
theorem visit_any (base g bo bl bt bv n cap b off tb toff tc : Nat) (l : List In) (hS : Sound l) (hn : n ≤ 1000) (fuel : Nat) :
    ∀ (S : List Bool) (i : Nat) (w : World), S.count false ≤ fuel → i < n → Env w g bo bl bt bv n cap b off tb toff tc l → w.ownsRow base 4 1 (.slice (some ⟨g, 0, none⟩) n n) n (VB S) →
    Calls Try.prog 52 #[.int .i64 i, .pointer (some ⟨bo, 0, none⟩), .pointer (some ⟨bl, 0, none⟩), .pointer (some ⟨bt, 0, none⟩), .pointer (some ⟨bv, 0, none⟩)] w (VisitPost w base g n (nxt l) S i) := by
  induction fuel with
  | zero =>
    intro S i w hf hi hE hO
    have hln := own_lenB hO
    have hT : S.getD i false = true := by
      cases e : S.getD i false
      · have := set_false S i (by omega) e; omega
      · rfl
    have c := (hO.cellAt i (by omega)).trans (VB_get S i (by omega))
    rw [hT] at c
    have hco := hE.co
    have HP := hid (show VisitPost w base g n (nxt l) S i (.returned (.tuple #[])) w from ⟨rfl, World.grownBy.refl _ _, S, hO, went_done hT⟩)
    clear hE hO hT
    go_enter Try.func52, Try.ntmps52
    go_wp2_with fail
    go_end0
    exact HP.out
  | succ fuel ih =>
    intro S i w hf hi hE hO
    have hln := own_lenB hO
    have c := (hO.cellAt i (by omega)).trans (VB_get S i (by omega))
    have hco := hE.co
    cases hT : S.getD i false
    case true =>
      rw [hT] at c
      have HP := hid (show VisitPost w base g n (nxt l) S i (.returned (.tuple #[])) w from ⟨rfl, World.grownBy.refl _ _, S, hO, went_done hT⟩)
      clear hE hO hT
      go_enter Try.func52, Try.ntmps52
      go_wp2_with fail
      go_end0
      exact HP.out
    case false =>
      rw [hT] at c
      have hcnt := set_false S i (by omega) hT
      have HIH := hid ih
      have fr := hO.frozenAt i
      have hst := hO.stored i (.bool true)
      rw [VB_set] at hst
      have hE1 := hE.up hst.2
      have hcl := hE1.cl
      have hct := hE1.ct
      obtain ⟨w1, hw1⟩ : ∃ w1, w.setCell ⟨g, i, none⟩ (.bool true) = w1 := ⟨_, rfl⟩
      have HW1 := hid hw1
      rw [hw1] at hst hE1 hcl hct
      have HE1 := hid hE1
      have HO1 := hid hst.1
      have HG1 := hid hst.2
      have HNX := hid (next_any (some ⟨b, off, none⟩) n cap l (.slice (some ⟨tb, toff, none⟩) n tc) (tgL l) i w1
        ⟨hE1.ln, fun _ => ⟨b, off, rfl, hE1.sb.1, hE1.rl⟩⟩ ⟨some ⟨tb, toff, none⟩, tc, by rw [tgL_length, hE1.ln], fun _ => ⟨tb, toff, rfl, hE1.stb.1, fun j hj => hE1.rt j (by rw [tgL_length, hE1.ln] at hj; exact hj)⟩⟩ hn hi (by rw [tgL_length, hE1.ln]; exact hi) (by rw [tgL_length, hE1.ln]; exact hn))
      have hgt := tgL_get l i (by rw [hE.ln]; exact hi)
      rw [hgt] at HNX
      have HM := hid (fun z hz => nxI_mem hS (show i < l.length by rw [hE.ln]; exact hi) (z := z) hz)
      have HLN := hid hE.ln
      have HSL := hid hln
      have hnl := (nxI_len (at' l i).op i (tgI l i)).1
      have HAT := hid (nxt_at l i)
      have HEND := hid (fun T k (h : Going (nxt l) S i k T) (hk : (nxI (at' l i).op i (tgI l i)).length ≤ k) => going_end h (by unfold nxt; rw [List.length_map]; exact hk) (show i < S.length by omega))
      have HCNT := hid (fun T k (h : Going (nxt l) S i k T) => (show T.count false ≤ fuel by have := le_false h.le; omega))
      obtain ⟨N, hN⟩ : ∃ N, nxI (at' l i).op i (tgI l i) = N := ⟨_, rfl⟩
      rw [hN] at HNX HM hnl HAT HEND
      clear hE hO hT hst hE1 hgt hN
      clear hw1
      go_enter Try.func52, Try.ntmps52
      go_upto_region 2 with fail
      rw [HW1.out]
      go_wp2_with fail
      refine HNX.out.mono ?_
      rintro e w2 ⟨v, rfl, hown, hb2⟩
      have HG2 := hid (grownBy_trans' HG1.out (grown_of3 hb2))
      have HE2 := hid (HE1.out.up (grown_of3 hb2))
      have HO2 := hid (HO1.out.kept (grown_of3 (r := none) hb2) (Or.inr (by simp [Value.ownBlock])))
      obtain ⟨va, vc, hv, hvr⟩ := own_argI hown
      have hvne : ∀ q o, va = some ⟨q, o, none⟩ → q ≠ g := by
        intro q o hq
        have := (hown.lt q (by rw [hv, hq]; rfl)).1
        have := (HO1.out.lt g rfl).2
        omega
      subst hv
      have HVR := hid hvr
      have HVN := hid hvne
      have hs2 := HG2.out.size
      clear hown hb2 hvr hvne hcl hct hco
      go_wp2
      go_loopw [20] (fun z wr => ∃ k : Nat, k ≤ N.length ∧ z = .int .i64 k ∧ w2.grownBy wr (some g) ∧ ∃ T, wr.ownsRow base 4 1 (.slice (some ⟨g, 0, none⟩) n n) n (VB T) ∧ Hid (Going (nxt l) S i k T)) (fun z _ => N.length - (intOf z).toNat)
      case atStart => exact ⟨0, Nat.zero_le _, rfl, World.grownBy.refl _ _, _, HO2.out, hid going_start⟩
      case round =>
        obtain ⟨k, hk, rfl, hgr, T, hown, HGO⟩ := hrel
        by_cases hlt : k < N.length
        · obtain ⟨q, o, rfl, hq, hcells⟩ := HVR.out (by omega)
          have hqg := HVN.out q o rfl
          obtain ⟨z, hz⟩ : ∃ z, N[k]? = some z := ⟨_, List.getElem?_eq_getElem hlt⟩
          have hzc := (World.cell?_of_block (a := ⟨q, o + k, none⟩) (hgr.block q hq (by simpa using hqg))).trans (hcells k hlt)
          rw [List.getD_eq_getElem?_getD, hz] at hzc
          simp only [Option.getD_some] at hzc
          have hzm := HM.out z (List.mem_of_getElem? hz)
          rw [HLN.out] at hzm
          have HE3 := HE2.out.up hgr
          have hcv := HE3.cv
          obtain ⟨m, rfl⟩ : ∃ m : Nat, z = (m : Int) := ⟨z.toNat, by omega⟩
          have HV := hid (HIH.out T m wr (HCNT.out T k HGO.out) (by omega) HE3 hown)
          have HNK := hid (HAT.out k _ hz)
          have HGR := hid hgr
          clear hcells hz hgr hown HE3
          go_wp2_with fail
          refine HV.out.mono ?_
          rintro e w4 ⟨rfl, hg4, T2, hown4, hwent⟩
          have HN2 := hid (going_step HGO.out HNK.out (by simpa using hwent))
          have HG4 := hid (grownBy_trans' HGR.out hg4)
          have HO4 := hid hown4
          clear hg4 hown4 hwent hzc hcv
          go_wp2_with fail
          go_roundw
          case rel => exact ⟨k + 1, by omega, by go_num, HG4.out, _, HO4.out, HN2⟩
          case measure => simp [intOf]; omega
        · have HP := hid (show VisitPost w base g n (nxt l) S i (.returned (.tuple #[])) wr from ⟨rfl, grownBy_trans' HG2.out hgr, T, hown, HEND.out T k HGO.out (by omega)⟩)
          have hge : N.length ≤ k := by omega
          clear hown hgr
          go_wp2
          go_end0
          exact HP.out
end Go.Proofs.Ytpknnmnknaaccaa.Flow
