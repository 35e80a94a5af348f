/-
  The contracts of flow's reached and of its Targets.
-/
import Derived.Test.YtpknnmnknaaccaaFlF
import Derived.Test.YtpknnmnknaaccaaFlG
import Derived.Laws.EntriesVeiled
namespace Go.Proofs.Ytpknnmnknaaccaa.Flow
open Go.RowKit Go.Proofs.Ytpknnmnknaaccaa.Num Go.Proofs.Ytpknnmnknaaccaa.ListB Go.Proofs.Ytpknnmnknaaccaa.Insn
def ReachPost (w : World) (n : Nat) (bs : List Bool) (e : Ending) (w' : World) : Prop :=
  ∃ g, e = .returned (.slice (some ⟨g, 0, none⟩) n n) ∧ w'.ownsRow w.heap.size 4 1 (.slice (some ⟨g, 0, none⟩) n n) n (VB bs) ∧ Below w.heap.size w w'
theorem refl_false (n : Nat) : (List.replicate n false).count false ≤ n := by simp
set_option maxHeartbeats 2000000 in
theorem reached_any (a : Option Addr) (n cap : Nat) (l : List In) (tv : Value) (w : World) (h : ArgN w a n l) (hn : n ≤ 1000) (h0 : 0 < n) (hS : Sound l) (ht : ArgI w tv (tgL l)) :
    Calls Try.prog 36 #[.slice a n cap, tv] w (ReachPost w n (refR (nxt l) n)) := by
  obtain ⟨i0, hi, hz0, hz1, hz2⟩ := info_parts infoBool
  have hln := h.1
  obtain ⟨b, off, rfl, hb, hr⟩ := h.2 h0
  obtain ⟨ta, tc, rfl, htr⟩ := ht
  have htl : (tgL l).length = n := by rw [tgL_length, hln]
  obtain ⟨tb, toff, rfl, htb, htc⟩ := htr (by omega)
  rw [htl] at htc ⊢
  have HR := hid hr
  have HT := hid htc
  have HN := hid hln
  have HSD := hid hS
  have HALL := hid (fun T (h : Went (nxt l) (List.replicate n false) 0 T) => went_all (n := n) (nx := nxt l) (fun i hi j hj => by have := nxt_lt hS (show i < l.length by omega) hj; omega) h0 h)
  clear h hr htr htc htl hln hS
  have hmf : ∀ (fn : Fn) (first cap : Array Value) (w : World), (Instr.makeFunc fn first cap).run Try.prog w = .ok (.func fn first cap) w := fun _ _ _ _ => rfl
  obtain ⟨W, hW⟩ : ∃ W, (w.alloc (.cells #[.slice (some ⟨b, off, none⟩) n cap] 22)).alloc (.cells #[.slice (some ⟨tb, toff, none⟩) n tc] 26) = W := ⟨_, rfl⟩
  have hWs : W.heap.size = w.heap.size + 2 := by rw [← hW]; simp
  have hWB : Below w.heap.size w W := by rw [← hW]; exact (below_new w _).alloc (by simp) _
  have hWl : W.cell? ⟨w.heap.size, 0, none⟩ = some (.slice (some ⟨b, off, none⟩) n cap) := by rw [← hW]; simp
  have hWt : W.cell? ⟨w.heap.size + 1, 0, none⟩ = some (.slice (some ⟨tb, toff, none⟩) n tc) := by
    rw [← hW]
    exact new_cell (by simp) rfl
  have HW := hid hW
  clear hW
  go_enter Try.func36, Try.ntmps36
  go_upto_region 1 with fail
  rw [HW.out]
  go_wp2_with (at_make; refine wpList_make_full _ rfl _ _ 38 rfl W.heap.size 4 i0 (.bool false) 1 Try.underlying38 hi hz0 hz1 .i64 .i64 _ _ n rfl rfl rfl rfl (by rw [hz2]; omega) (by unfold maxLen; omega) (Nat.le_refl _) ?_; intro w1 hown1 hgrow1)
  have hst := makeB_own hown1
  have hb1 : Below W.heap.size W w1 := ⟨hgrow1.os, hgrow1.tape, hgrow1.output, hgrow1.size, fun k hk => hgrow1.block k hk (by simp)⟩
  have hg := (hst.lt W.heap.size rfl).2
  have HB1 := hid hb1
  have HO1 := hid hst
  have hs1 := hb1.size
  clear hown1 hgrow1 hst hb1
  rw [hWs] at HO1 hg HB1 hs1
  have HGG := hid hWs
  clear hWs
  obtain ⟨g, hgg⟩ : ∃ g, w.heap.size + 2 = g := ⟨_, rfl⟩
  rw [hgg] at HO1 hg HB1 hs1 HGG ⊢
  have HG2 := hid hgg
  clear hgg
  obtain ⟨V, hV⟩ : ∃ V, (w1.alloc (.cells #[.slice (some ⟨g, 0, none⟩) n n] 38)).alloc (.cells #[.func (.func 52) #[] #[.pointer (some ⟨w1.heap.size, 0, none⟩), .pointer (some ⟨w.heap.size, 0, none⟩), .pointer (some ⟨w.heap.size + 1, 0, none⟩), .pointer (some ⟨w1.heap.size + 1, 0, none⟩)]] 69) = V := ⟨_, rfl⟩
  have hVs : V.heap.size = w1.heap.size + 2 := by rw [← hV]; simp
  have hgg := HG2.out
  have hgw := HGG.out
  have hVB : Below w1.heap.size w1 V := by rw [← hV]; exact (below_new w1 _).alloc (by simp) _
  have hVo : V.cell? ⟨w1.heap.size, 0, none⟩ = some (.slice (some ⟨g, 0, none⟩) n n) := by rw [← hV]; simp
  have hVv : V.cell? ⟨w1.heap.size + 1, 0, none⟩ = some (.func (.func 52) #[] #[.pointer (some ⟨w1.heap.size, 0, none⟩), .pointer (some ⟨w.heap.size, 0, none⟩), .pointer (some ⟨w.heap.size + 1, 0, none⟩), .pointer (some ⟨w1.heap.size + 1, 0, none⟩)]) := by
    rw [← hV]
    exact new_cell (by simp) rfl
  have HV := hid hV
  have hWV : Below W.heap.size W V := by rw [HGG.out]; exact HB1.out.trans (hVB.mono hs1)
  have hBV : Below w.heap.size w V := hWB.trans (hWV.mono hWB.size)
  have hOV := HO1.out.kept (grown_of3 (r := none) hVB) (Classical.em _)
  have HE := hid (show Env V g w1.heap.size w.heap.size (w.heap.size + 1) (w1.heap.size + 1) n cap b off tb toff tc l from
    ⟨hVo, (hWV.cell (show w.heap.size < _ by omega)).trans hWl, (hWV.cell (show w.heap.size + 1 < _ by omega)).trans hWt, hVv,
      ⟨by omega, by omega⟩, ⟨by omega, by omega⟩, ⟨by omega, by omega⟩, ⟨by omega, by omega⟩, ⟨by omega, by omega⟩, ⟨by omega, by omega⟩, HN.out, HR.out.below hBV hb, fun i hi => (hBV.cell (show tb < _ from htb)).trans (HT.out i hi)⟩)
  have HVI := hid (visit_any g g w1.heap.size w.heap.size (w.heap.size + 1) (w1.heap.size + 1) n cap b off tb toff tc l HSD.out hn n (List.replicate n false) 0 V (refl_false n) h0 HE.out hOV)
  have HBV := hid hBV
  clear hV hOV hWV hBV hVs hgg hgw
  go_upto_region 4 with fail
  rw [HV.out]
  clear hVB
  go_wp2_with fail
  refine HVI.out.mono ?_
  rintro e w2 ⟨rfl, hg2, T, hown2, hw2⟩
  have hco := (HE.out.up hg2).co
  have HP := hid (show ReachPost w n (refR (nxt l) n) (.returned (.slice (some ⟨g, 0, none⟩) n n)) w2 from
    ⟨g, rfl, by rw [← HALL.out T hw2]; exact hown2.mono (by have := HG2.out; omega), HBV.out.grown hg2 HBV.out.size (fun q hq => by cases hq; have := HG2.out; omega)⟩)
  clear hg2 hown2 hw2
  go_wp2_with fail
  go_ret
  exact HP.out
/-! ### Targets -/
theorem fall_contains {l : List In} : (nxI (at' l (l.length - 1)).op ((l.length : Int) - 1) (tgI l (l.length - 1))).contains (l.length : Int) = fallB l := by
  have hr := tgI_range l (l.length - 1)
  unfold fallB nxI
  generalize (at' l (l.length - 1)).op = op
  generalize tgI l (l.length - 1) = t at hr
  by_cases h1 : op = 149
  · rw [if_pos h1, h1]; rfl
  · rw [if_neg h1]
    by_cases h2 : op = 5
    · rw [if_pos h2, h2]
      simp; omega
    · rw [if_neg h2]
      have e : (op != 149 && op != 5) = true := by simp [h1, h2]
      rw [e]
      split
      · split
        · simp
        · simp
      · simp
theorem err_many {l : List In} (h : 256 < l.length) : errF l = 19 := by unfold errF; rw [if_pos h]
theorem err_none {l : List In} (h : l.length = 0) : errF l = 12 := by unfold errF; rw [if_neg (by omega), if_pos h]
theorem err_jump {l : List In} (h1 : ¬ 256 < l.length) (h2 : 0 < l.length) (h : landB l = false) : errF l = 11 := by unfold errF; rw [if_neg h1, if_neg (by omega), if_pos h]
theorem err_fall {l : List In} (h1 : ¬ 256 < l.length) (h2 : 0 < l.length) (h : landB l = true) (hf : fallB l = true) : errF l = 12 := by unfold errF; rw [if_neg h1, if_neg (by omega), if_neg (by rw [h]; simp), if_pos hf]
theorem err_dead {l : List In} (h1 : ¬ 256 < l.length) (h2 : 0 < l.length) (h : landB l = true) (hf : fallB l = false) (hd : deadB l = true) : errF l = 13 := by unfold errF; rw [if_neg h1, if_neg (by omega), if_neg (by rw [h]; simp), if_neg (by rw [hf]; simp), if_pos hd]
theorem err_good {l : List In} (h1 : ¬ 256 < l.length) (h2 : 0 < l.length) (h : landB l = true) (hf : fallB l = false) (hd : deadB l = false) : errF l = 0 := by unfold errF; rw [if_neg h1, if_neg (by omega), if_neg (by rw [h]; simp), if_neg (by rw [hf]; simp), if_neg (by rw [hd]; simp)]
/-- What Targets hands back. -/
def OutPost (w : World) (l : List In) (e : Ending) (w' : World) : Prop :=
  ∃ v, e = .returned (.tuple #[v, .int .i64 (errF l)]) ∧ w'.ownsRow w.heap.size 3 1 v (outF l).length (VI (outF l)) ∧ Below w.heap.size w w'
theorem out_bad {w w' : World} {l : List In} {e : Int} (h : errF l = e) (he : e ≠ 0) (hb : Below w.heap.size w w') : OutPost w l (.returned (.tuple #[.slice none 0 0, .int .i64 e])) w' := by
  subst h
  exact ⟨_, rfl, by rw [outF_err he]; exact World.ownsRow_nil _ _ _ _, hb⟩
theorem out_good {w w' : World} {l : List In} {v : Value} {n : Nat} (h : errF l = 0) (hn : l.length = n) (ho : w'.ownsRow w.heap.size 3 1 v n (VI (tgL l))) (hb : Below w.heap.size w w') : OutPost w l (.returned (.tuple #[v, .int .i64 0])) w' :=
  ⟨v, by rw [h], by rw [outF_ok h, tgL_length, hn]; exact ho, hb⟩
theorem cells_ownB {w : World} {base g n c : Nat} {bs : List Bool} (h : w.ownsRow base 4 1 (.slice (some ⟨g, 0, none⟩) n c) n (VB bs)) : ∀ i, i < n → w.cell? ⟨g, 0 + i, none⟩ = some (.bool (bs.getD i false)) := fun i hi => by
  rw [Nat.zero_add, h.cellAt i (by omega)]
  exact VB_get _ _ (by have := own_lenB h; omega)
set_option maxHeartbeats 2000000 in
theorem targets_any (a : Option Addr) (n cap : Nat) (l : List In) (w : World) (h : ArgN w a n l) (hof : OffL l) (hm : n ≤ 9223372036854775807) :
    Calls Try.prog 11 #[.slice a n cap] w (OutPost w l) := by
  have hln := h.1
  by_cases h1 : 256 < n
  · have HP := hid (out_bad (w := w) (w' := w) (l := l) (err_many (by rw [hln]; exact h1)) (by omega) (Below.refl _ _))
    clear h hln
    go_enter Try.func11, Try.ntmps11
    go_wp2_with fail
    go_ret2
    exact HP.out
  by_cases h0 : n = 0
  · have HP := hid (out_bad (w := w) (w' := w) (l := l) (err_none (by rw [hln]; exact h0)) (by omega) (Below.refl _ _))
    clear h hln
    subst h0
    go_enter Try.func11, Try.ntmps11
    go_wp2_with fail
    go_ret2
    exact HP.out
  have hp : 0 < n := by omega
  have HA := hid h
  have HN := hid hln
  have HL := hid (landings_any a n cap l w h (by omega) hp hof)
  have HFC := hid (fall_contains (l := l))
  have HLN := hid (show (tgL l).length = n by rw [tgL_length, hln])
  have HTG := hid (tgL_get l (n - 1) (by omega))
  have HEJ := hid (fun w' (h : landB l = false) (hb : Below w.heap.size w w') => out_bad (e := 11) (err_jump (by omega) (by omega) h) (by omega) hb)
  have HEF := hid (fun w' (h : landB l = true) (hf : fallB l = true) (hb : Below w.heap.size w w') => out_bad (e := 12) (err_fall (by omega) (by omega) h hf) (by omega) hb)
  have HED := hid (fun w' (h : landB l = true) (hf : fallB l = false) (hd : deadB l = true) (hb : Below w.heap.size w w') => out_bad (e := 13) (err_dead (by omega) (by omega) h hf hd) (by omega) hb)
  have HEG := hid (fun w' v (h : landB l = true) (hf : fallB l = false) (hd : deadB l = false) (ho : w'.ownsRow w.heap.size 3 1 v n (VI (tgL l))) (hb : Below w.heap.size w w') => out_good (err_good (by omega) (by omega) h hf hd) hln ho hb)
  have hn0 : ((n : Int) == 0) = false := by simp; omega
  rw [HN.out] at HFC
  clear h hof hln
  go_enter Try.func11, Try.ntmps11
  go_wp2_with fail
  refine HL.out.mono ?_
  rintro e w1 ⟨hb1, ⟨hlb, rfl⟩ | ⟨hlb, v, rfl, hown⟩⟩
  · have HP := hid (HEJ.out w1 hlb hb1)
    clear hlb hb1
    go_wp2_with fail
    go_ret2
    exact HP.out
  have HLB := hid hlb
  have HB1 := hid hb1
  have HO := hid hown
  have HNX := hid (next_any a n cap l v (tgL l) (n - 1) w1 (HA.out.up hb1) (own_argI hown) (by omega) (by omega) (by rw [HLN.out]; omega) (by rw [HLN.out]; omega))
  rw [HTG.out, show ((n - 1 : Nat) : Int) = (n : Int) - 1 by omega] at HNX
  have hnl := (nxI_len (at' l (n - 1)).op ((n : Int) - 1) (tgI l (n - 1))).1
  obtain ⟨N, hN⟩ : ∃ N, nxI (at' l (n - 1)).op ((n : Int) - 1) (tgI l (n - 1)) = N := ⟨_, rfl⟩
  rw [hN] at HNX HFC hnl
  clear hlb hb1 hown hN HL
  go_wp2_with fail
  refine HNX.out.mono ?_
  rintro e w2 ⟨nv, rfl, hown2, hb2⟩
  have HCT := hid (contI_any nv N (n : Int) w2 (by omega) (own_argI hown2))
  rw [HFC.out] at HCT
  have HB2 := hid (HB1.out.trans (hb2.mono HB1.out.size))
  have HO2 := hid (HO.out.kept (grown_of3 (r := none) hb2) (Classical.em _))
  clear hown2 hb2
  go_wp2_with fail
  refine HCT.out.mono ?_
  rintro e w3 ⟨rfl, rfl⟩
  cases hf : fallB l
  case true =>
    have HP := hid (HEF.out w3 HLB.out hf HB2.out)
    clear hf
    go_wp2_with fail
    go_ret2
    exact HP.out
  case false =>
    have hS : Sound l := ⟨HLB.out, hf, by rw [HN.out]; exact hp⟩
    have HF := hid hf
    have HR := hid (reached_any a n cap l v w3 (HA.out.up HB2.out) (by omega) hp hS (own_argI HO2.out))
    clear hf hS
    go_wp2_with fail
    refine HR.out.mono ?_
    rintro e w4 ⟨g, rfl, hown4, hb4⟩
    have HC := hid (contB_any g 0 n n (refR (nxt l) n) w4 (by omega) (own_lenB hown4) (cells_ownB hown4))
    rw [show (!(refR (nxt l) n).all id) = deadB l by unfold deadB; rw [HN.out]] at HC
    have HB4 := hid (HB2.out.trans (hb4.mono HB2.out.size))
    have HO4 := hid (HO2.out.kept (grown_of3 (r := none) hb4) (Classical.em _))
    clear hown4 hb4
    go_wp2_with fail
    refine HC.out.mono ?_
    rintro e w5 ⟨rfl, rfl⟩
    cases hd : deadB l
    case true =>
      have HP := hid (HED.out w4 HLB.out HF.out hd HB4.out)
      clear hd
      go_wp2_with fail
      go_ret2
      exact HP.out
    case false =>
      have HP := hid (HEG.out w4 v HLB.out HF.out hd HO4.out HB4.out)
      clear hd
      go_wp2_with fail
      go_ret2
      exact HP.out
end Go.Proofs.Ytpknnmnknaaccaa.Flow
