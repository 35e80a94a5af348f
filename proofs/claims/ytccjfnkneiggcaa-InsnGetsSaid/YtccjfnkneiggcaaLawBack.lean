/-
  The walk of the law InsnBack: instructions that may be have bytes, which are these instructions.
-/
import Derived.Test.YtccjfnkneiggcaaAppend
import Derived.BigFrame
namespace Go.Proofs.Ytccjfnkneiggcaa.Insn
open Go.RowKit Go.Proofs.Ytccjfnkneiggcaa.Num Go.Proofs.Ytccjfnkneiggcaa.ListB
theorem bd_of {zs : List Int} (h : ∀ z ∈ zs, 0 ≤ z ∧ z ≤ 255) (i : Nat) : 0 ≤ zs.getD i 0 ∧ zs.getD i 0 ≤ 255 := by
  by_cases hi : i < zs.length
  · rw [List.getD_eq_getElem?_getD, List.getElem?_eq_getElem hi]; exact h _ (List.getElem_mem hi)
  · rw [List.getD_eq_getElem?_getD, List.getElem?_eq_none (by omega)]; simp
theorem laidL_bd (u n : Nat) : ∀ z ∈ laidL u n, 0 ≤ z ∧ z ≤ 255 := by
  intro z hz
  unfold laidL at hz
  obtain ⟨k, _, rfl⟩ := List.mem_map.1 hz
  omega
theorem encOne_bd {x : In} (hf : Fine x) : ∀ z ∈ encOne x, 0 ≤ z ∧ z ≤ 255 := by
  intro z hz
  have h1 := hf.op; have h2 := hf.d; have h3 := hf.s
  unfold encOne at hz
  simp only [List.mem_append, List.mem_cons, List.not_mem_nil, or_false] at hz
  rcases hz with (hz | hz) | hz
  · rcases hz with rfl | rfl <;> omega
  · exact laidL_bd _ _ z hz
  · split at hz
    · simp only [List.mem_append, List.mem_cons, List.not_mem_nil, or_false] at hz
      rcases hz with (hz | hz) | hz
      · exact laidL_bd _ _ z hz
      · omega
      · exact laidL_bd _ _ z (List.mem_of_mem_drop hz)
    · exact laidL_bd _ _ z hz
theorem enc_bd {l : List In} (h : AllOk l) : ∀ z ∈ enc l, 0 ≤ z ∧ z ≤ 255 := by
  induction l with
  | nil => intro z hz; simp [enc] at hz
  | cons x l ih =>
    intro z hz
    rw [enc_cons, List.mem_append] at hz
    rcases hz with hz | hz
    · exact encOne_bd (fine_of (h 0 x rfl)) z hz
    · exact ih (tail_ok h) z hz
theorem ownB_shape {w : World} {base n : Nat} {v : Value} {xs : List Value} {size : Nat} {T : TypeId} (h : w.ownsRow base T size v n xs) : ∃ a c, v = .slice a n c := by
  rcases h.2 with ⟨rfl, rfl⟩ | ⟨g, cap, cur, rfl, _⟩
  · exact ⟨none, 0, rfl⟩
  · exact ⟨_, cap, rfl⟩
theorem own_argB {w : World} {base n : Nat} {a : Option Addr} {c : Nat} {zs : List Int} (h : w.ownsRow base 5 1 (.slice a n c) n (V zs)) (hb : ∀ i, 0 ≤ zs.getD i 0 ∧ zs.getD i 0 ≤ 255) : Arg w a n zs ∧ n ≤ c ∧ c ≤ 9223372036854775807 := by
  have hz : zs.length = n := by have := h.1; unfold V at this; simpa using this
  rcases h.2 with ⟨e, hn⟩ | ⟨g, cap, cur, e, _, _, hle, hm, _⟩
  · cases e
    exact ⟨⟨hz, hb, fun h0 => absurd h0 (by omega)⟩, by omega, by omega⟩
  · cases e
    refine ⟨⟨hz, hb, fun h0 => ⟨g, 0, rfl, (h.lt g rfl).2, fun i hi => own_cellB h i hi⟩⟩, hle, by unfold maxLen at hm; omega⟩
theorem own_argN' {w : World} {base n : Nat} {a : Option Addr} {c : Nat} {l : List In} (h : w.ownsRow base 23 5 (.slice a n c) n (VN l)) : ArgN w a n l ∧ n ≤ c ∧ c ≤ 9223372036854775807 := by
  obtain ⟨a', c', e, hA⟩ := own_argN h
  cases e
  rcases h.2 with ⟨e, hn⟩ | ⟨g, cap, cur, e, _, _, hle, hm, _⟩
  · cases e; exact ⟨hA, by omega, by omega⟩
  · cases e; exact ⟨hA, hle, by unfold maxLen at hm; omega⟩
theorem allOk_append {l m : List In} (h1 : AllOk l) (h2 : AllOk m) : AllOk (l ++ m) := fun k x hx => by
  by_cases hk : k < l.length
  · rw [List.getElem?_append_left hk] at hx; exact h1 k x hx
  · rw [List.getElem?_append_right (by omega)] at hx; exact h2 _ x hx
theorem wfL_append {l m : List In} (h1 : WfL l) (h2 : WfL m) : WfL (l ++ m) := fun k x hx => by
  by_cases hk : k < l.length
  · rw [List.getElem?_append_left hk] at hx; exact h1 k x hx
  · rw [List.getElem?_append_right (by omega)] at hx; exact h2 _ x hx
theorem putErr_ok {l : List In} (hl : l.length ≤ 256) (h : AllOk l) : putErr l = 0 := by unfold putErr; rw [if_neg (by omega)]; exact firstErr_ok h
theorem ok_putErr {l : List In} (h : putErr l = 0) : AllOk l := by
  unfold putErr at h
  split at h
  · omega
  · exact ok_firstErr h
theorem back_many (a0 a1 : Option Addr) (len0 cap0 len1 cap1 : Nat) (w : World) (hl : 256 < len0 + len1) (h0 : len0 ≤ 3518437208883) (h1 : len1 ≤ 3518437208883) :
    Calls Try.prog 6 #[.slice a0 len0 cap0, .slice a1 len1 cap1] w fun e w' => e = .returned (.bool true) ∧ Below w.heap.size w w' := by
  have hd : decide ((256 : Int) < (len0 : Int) + (len1 : Int)) = true := by simp; omega
  go_enter Try.func6, Try.ntmps6
  go_wp2_with fail
  refine (known_any _).mono ?_
  rintro e w1 ⟨rfl, hb⟩
  go_wp2_with fail
  go_ret
  exact ⟨rfl, hb⟩
set_option maxHeartbeats 4000000 in
theorem back_bad (a0 a1 : Option Addr) (len0 cap0 len1 cap1 : Nat) (l m : List In) (w : World) (h0 : ArgN w a0 len0 l) (h1 : ArgN w a1 len1 m) (w0 : WfL l) (w1 : WfL m) (hl : len0 + len1 ≤ 256) (hbad : ¬ (putErr l = 0 ∧ putErr m = 0)) :
    Calls Try.prog 6 #[.slice a0 len0 cap0, .slice a1 len1 cap1] w fun e w' => e = .returned (.bool true) ∧ Below w.heap.size w w' := by
  have hd : decide ((256 : Int) < (len0 : Int) + (len1 : Int)) = false := by simp; omega
  have HP0 := hid (dput_any a0 len0 cap0 l w h0 (by omega) w0)
  have HP1 := hid (fun w' hb => dput_any a1 len1 cap1 m w' (h1.up hb) (by omega) w1)
  have L0 := hid (fun h : putErr l ≠ 0 => putL_err h)
  have L1 := hid (fun h : putErr m ≠ 0 => putL_err h)
  unfold PutPost at HP0 HP1
  generalize putErr l = e0 at *
  generalize putErr m = e1 at *
  clear h0 h1 w0 w1
  go_enter Try.func6, Try.ntmps6
  go_wp2_with fail
  refine HP0.out.mono ?_
  rintro e w1 ⟨v1, rfl, hown1, hb1⟩
  obtain ⟨A1, c1, rfl⟩ := ownB_shape hown1
  have HB1 := hid hb1
  clear hown1 hb1 HP0
  go_wp2_with fail
  refine (HP1.out _ HB1.out).mono ?_
  rintro e w2 ⟨v2, rfl, hown2, hb2⟩
  obtain ⟨A2, c2, rfl⟩ := ownB_shape hown2
  have HB2 := hid (HB1.out.trans (hb2.mono HB1.out.size))
  clear hown2 hb2 HP1
  have HK := hid (known_any w2)
  by_cases z0 : e0 = 0
  · have z1 : e1 ≠ 0 := fun h => hbad ⟨z0, h⟩
    rw [L1.out z1]
    subst z0
    have q1 : (e1 != 0) = true := by simpa using z1
    have q1' : (e1 == 0) = false := by simpa using z1
    clear z1 hbad
    go_wp2_with fail
    refine HK.out.mono ?_
    rintro e w3 ⟨rfl, hb3⟩
    have HB3 := hid (HB2.out.trans (hb3.mono HB2.out.size))
    clear hb3
    go_wp2_with fail
    go_ret
    exact ⟨rfl, HB3.out⟩
  · rw [L0.out z0]
    have q0 : (e0 != 0) = true := by simpa using z0
    have q0' : (e0 == 0) = false := by simpa using z0
    by_cases z1 : e1 = 0
    · subst z1
      clear z0 hbad
      go_wp2_with fail
      refine HK.out.mono ?_
      rintro e w3 ⟨rfl, hb3⟩
      have HB3 := hid (HB2.out.trans (hb3.mono HB2.out.size))
      clear hb3
      go_wp2_with fail
      go_ret
      exact ⟨rfl, HB3.out⟩
    · rw [L1.out z1]
      have q1 : (e1 != 0) = true := by simpa using z1
      have q1' : (e1 == 0) = false := by simpa using z1
      clear z0 z1 hbad
      go_wp2_with fail
      refine HK.out.mono ?_
      rintro e w3 ⟨rfl, hb3⟩
      have HB3 := hid (HB2.out.trans (hb3.mono HB2.out.size))
      clear hb3
      go_wp2_with fail
      go_ret
      exact ⟨rfl, HB3.out⟩
theorem wpList_appBw {ops : Array Oper} {rest : List Oper} {o : Oper} {a : Act} {Q : Exit → Act → World → Prop} (w : World) (hw : Region.wanted o (yielded ops a.tmps) = true) (s y : Operand) (ho : o.op = .call { callee := .builtin .append, args := #[s, y], argTypes := #[33, 33] })
    (w0 : World) (v : Value) (cs : List Int) (hs : a.eval s = v) (hown : w.ownsRow w0.heap.size 5 1 v cs.length (V cs)) (hbel : Below w0.heap.size w0 w) (b2 : Nat) (v2 : Value) (ns : List Int) (hy : a.eval y = v2) (hm : w.ownsRow b2 5 1 v2 ns.length (V ns)) (hb : cs.length + ns.length ≤ 100000)
    (h : ∀ v' w', w'.ownsRow w0.heap.size 5 1 v' (cs ++ ns).length (V (cs ++ ns)) → Below w0.heap.size w0 w' → w.grownBy w' v.ownBlock → wpList Try.prog ops Q rest (a.put o.dst v') w') : wpList Try.prog ops Q (o :: rest) a w := by
  obtain ⟨i0, hi, hz0, hz1, hz2⟩ := info_parts info8
  refine BigFrame.wpList_want hw fun K hK => ?_
  rcases hm.2 with ⟨rfl, hn0⟩ | ⟨g, c, cur, rfl, _⟩
  · have hns : ns = [] := List.length_eq_zero_iff.1 hn0
    subst hns
    have hrun := run_append_owned_none (P := Try.prog) (w := w) w0.heap.size 33 o.type 5 i0 1 Try.underlying33 hi v _ _ hown
    unfold Oper.wp
    simp [execOp, ho, resolve, invoke, builtin, hs, hy, hrun, Result.andThen]
    exact hK _ _ (h v w (by simpa using hown) hbel (World.grownBy.refl _ _))
  · refine wp_append_own w s y 33 ho w0.heap.size 5 i0 (.int .u8 0) 1 1 Try.underlying33 hi hz0 hz1 hz2 rfl (by decide) v _ _ hs hown ⟨g, 0, none⟩ ns.length c (V ns) hy (by unfold V; simp) (own_cells hm) (V_one ns) (by unfold maxLen; omega) (by omega) hbel.size ?_
    intro v' w' hown' hgr _
    refine hK _ _ (h v' w' ?_ (hbel.grown hgr hbel.size (fun k hk => (hown.lt k hk).1)) hgr)
    rw [V_append, List.length_append]; exact hown'
theorem ne_block {v v' : Value} (B : Nat) (h : ∀ k, v.ownBlock = some k → k < B) (h' : ∀ k, v'.ownBlock = some k → B ≤ k) : v.ownBlock = none ∨ v.ownBlock ≠ v'.ownBlock := by
  cases hv : v.ownBlock with
  | none => exact Or.inl rfl
  | some k =>
    right
    intro e
    have a := h k hv
    have b := h' k e.symm
    omega
theorem enc_step (P : List In) (k : Nat) (x : In) (hx : P[k]? = some x) : (enc (P.take (k + 1))).length = (enc (P.take k)).length + lenI x.op := by
  rw [← enc_snoc P k x hx, List.length_append, encOne_length]
set_option maxHeartbeats 1000000 in
theorem back_good (a0 a1 : Option Addr) (len0 cap0 len1 cap1 : Nat) (l m : List In) (w : World) (h0 : ArgN w a0 len0 l) (h1 : ArgN w a1 len1 m) (w0 : WfL l) (w1 : WfL m) (nz1 : a1 = none → cap1 = 0) (hl : len0 + len1 ≤ 256) (ok0 : putErr l = 0) (ok1 : putErr m = 0) :
    Calls Try.prog 6 #[.slice a0 len0 cap0, .slice a1 len1 cap1] w fun e w' => e = .returned (.bool true) ∧ Below w.heap.size w w' := by
  have hd : decide ((256 : Int) < (len0 : Int) + (len1 : Int)) = false := by simp; omega
  have HP0 := hid (dput_any a0 len0 cap0 l w h0 (by omega) w0)
  have HP1 := hid (fun w' hb => dput_any a1 len1 cap1 m w' (h1.up hb) (by omega) w1)
  unfold PutPost at HP0 HP1
  rw [ok0, putL_ok ok0] at HP0
  rw [ok1, putL_ok ok1] at HP1
  have hP : (l ++ m).length = len0 + len1 := by rw [List.length_append, h0.1, h1.1]
  have hallP := allOk_append (ok_putErr ok0) (ok_putErr ok1)
  have hwfP := wfL_append w0 w1
  have HPE := hid (putErr_ok (by omega) hallP)
  have HPL := hid (putL_ok HPE.out)
  have HGR := hid (get_enc (l ++ m) hallP (big_of hwfP) (by omega))
  have HBD := hid (bd_of (enc_bd hallP))
  have HBD0 := hid (bd_of (enc_bd (ok_putErr ok0)))
  have HWF := hid hwfP
  have HENC := hid (enc_append l m)
  have HLL := hid hP
  have H0 := hid h0
  have H1 := hid h1
  have HNZ := hid nz1
  have le0 := enc_le l
  have le1 := enc_le m
  have hl0 : l.length = len0 := h0.1
  have hl1 : m.length = len1 := h1.1
  have leP : (enc (l ++ m)).length = (enc l).length + (enc m).length := by rw [enc_append, List.length_append]
  have hl2 : l.length + len1 ≤ 100000 := by omega
  have leP2 : (enc l).length + (enc m).length ≤ 100000 := by omega
  have lePP : (enc (l ++ m)).length ≤ 100000 := by omega
  clear h0 h1 w0 w1 nz1 ok0 ok1 hallP hwfP hP hl0 hl1 leP
  go_enter Try.func6, Try.ntmps6
  go_wp2_with fail
  refine HP0.out.mono ?_
  rintro e w1 ⟨v1, rfl, hown1, hb1⟩
  have HO1 := hid hown1
  have HB1 := hid hb1
  clear hown1 hb1 HP0
  go_wp2_with fail
  refine (HP1.out _ HB1.out).mono ?_
  rintro e w2 ⟨v2, rfl, hown2, hb2⟩
  have HO2 := hid hown2
  have HB12 := hid hb2
  have HB2 := hid (HB1.out.trans (hb2.mono HB1.out.size))
  have hs12 := hb2.size
  have hs01 := HB1.out.size
  clear hown2 hb2 HP1
  have HC := hid (copyN_any a0 len0 cap0 l w2 (H0.out.up HB2.out) (by omega))
  go_wp2_with fail
  refine HC.out.mono ?_
  rintro e w3 ⟨v3, rfl, hown3, hb3⟩
  have HO3 := hid hown3
  have HB3 := hid hb3
  have hs23 := hb3.size
  clear hown3 hb3 HC
  have HM3 := hid (H1.out.up (HB2.out.trans (HB3.out.mono HB2.out.size)))
  go_wp2_with (at_builtin; refine wpList_appN _ rfl _ _ rfl w2 v3 l rfl HO3.out HB3.out a1 len1 cap1 m rfl HM3.out HNZ.out hl2 ?_)
  intro v4 w4 hown4 hb4 hgr4
  have HB4 := hid hb4
  have hs24 := hb4.size
  have hown4 : w4.ownsRow w2.heap.size 23 5 v4 (len0 + len1) (VN (l ++ m)) := by rw [← HLL.out]; first | exact hown4 | (rw [List.length_append]; exact hown4)
  obtain ⟨A4, c4, rfl⟩ := ownB_shape hown4
  have HO4 := hid hown4
  clear hgr4 hb4 HM3 le0 le1
  obtain ⟨P, hPg⟩ : ∃ P, l ++ m = P := ⟨_, rfl⟩
  rw [hPg] at HPE HPL HGR HBD HWF HENC HLL HO4 lePP
  clear hPg hown4
  have HAN4 := hid (own_argN' HO4.out)
  have HZP := hid (show P.length = len0 + len1 from HLL.out)
  go_wp2
  go_loop [10, 11] (fun n i => ∃ k : Nat, k ≤ len0 + len1 ∧ i = .int .i64 k ∧ n = .int .i64 ((enc (P.take k)).length : Nat)) (fun _ i => len0 + len1 - (intOf i).toNat)
  case atStart => exact ⟨0, Nat.zero_le _, rfl, rfl⟩
  case round =>
    obtain ⟨k, hk, rfl, rfl⟩ := hrel
    have hle := enc_le (P.take k)
    have hle2 : (P.take k).length ≤ k := List.length_take_le _ _
    by_cases hlt : k < len0 + len1
    · obtain ⟨x, hx⟩ : ∃ x, P[k]? = some x := ⟨_, List.getElem?_eq_getElem (by rw [HZP.out]; exact hlt)⟩
      obtain ⟨b, off, rfl, hb, hrow⟩ := HAN4.out.1.2 (by omega)
      obtain ⟨c0, _, _, _, _⟩ := hrow k x hx
      have HST := hid (enc_step P k x hx)
      have hd4 : decide (k < len0 + len1) = true := by simp; omega
      clear hrow hx
      by_cases h24 : x.op = 24
      · have b24 : (x.op == 24) = true := by simp [h24]
        have HL16 := hid (show lenI x.op = 16 by unfold lenI; rw [if_pos h24])
        clear h24
        go_wp2
        go_round
        case rel => exact ⟨k + 1, by omega, by go_num, by rw [HST.out, HL16.out]; go_num⟩
        case measure => simp [intOf]; omega
      · have b24 : (x.op == 24) = false := by simp [h24]
        have HL8 := hid (show lenI x.op = 8 by unfold lenI; rw [if_neg h24])
        clear h24
        go_wp2
        go_round
        case rel => exact ⟨k + 1, by omega, by go_num, by rw [HST.out, HL8.out]; go_num⟩
        case measure => simp [intOf]; omega
    · have hkk : k = len0 + len1 := by omega
      have hd4 : decide (k < len0 + len1) = false := by simp; omega
      have hPk : P.take k = P := List.take_of_length_le (by rw [HZP.out]; omega)
      rw [hPk]
      clear hPk hle hle2 hkk
      have HPP := hid (dput_any A4 (len0 + len1) c4 P w4 HAN4.out.1 (by omega) HWF.out)
      unfold PutPost at HPP
      rw [HPE.out, HPL.out] at HPP
      go_wp2_with fail
      refine HPP.out.mono ?_
      rintro e w5 ⟨v5, rfl, hown5, hb5⟩
      obtain ⟨A5, c5, rfl⟩ := ownB_shape hown5
      have HO5 := hid hown5
      have HB5 := hid hb5
      have hs45 := hb5.size
      have HA5 := hid (own_argB hown5 HBD.out)
      clear hown5 hb5 HPP
      have HGG := hid (dget_any A5 (enc P).length c5 (enc P) w5 HA5.out.1 HA5.out.2.1 HA5.out.2.2)
      unfold GetPost at HGG
      rw [HGR.out] at HGG
      go_wp2_with fail
      refine HGG.out.mono ?_
      rintro e w6 ⟨v6, rfl, hown6, hb6⟩
      have HO6 := hid hown6
      have HB6 := hid hb6
      have hs56 := hb6.size
      clear hown6 hb6 HGG
      have HB26 := hid ((HB4.out.trans (HB5.out.mono hs24)).trans (HB6.out.mono (by omega)))
      have HO16 := hid ((HO1.out.kept (grown_of2 HB12.out) (Classical.em _)).kept (grown_of2 HB26.out) (Classical.em _))
      have HO26 := hid (HO2.out.kept (grown_of2 HB26.out) (Classical.em _))
      have HO46 := hid ((HO4.out.kept (grown_of2 HB5.out) (Classical.em _)).kept (grown_of2 HB6.out) (Classical.em _))
      have HO56 := hid (HO5.out.kept (grown_of2 HB6.out) (Classical.em _))
      obtain ⟨A1, c1, rfl⟩ := ownB_shape HO16.out
      have HCB := hid (copy_own A1 (enc l).length c1 (enc l) w6 (own_argB HO16.out HBD0.out).1 (by omega))
      go_wp2_with fail
      refine HCB.out.mono ?_
      rintro e w7 ⟨v7, rfl, hown7, hb7⟩
      have HO7 := hid hown7
      have HB7 := hid hb7
      have hs67 := hb7.size
      have HO27 := hid (HO26.out.kept (grown_of2 hb7) (Classical.em _))
      have HO47 := hid (HO46.out.kept (grown_of2 hb7) (Classical.em _))
      have HO57 := hid (HO56.out.kept (grown_of2 hb7) (Classical.em _))
      have HO67 := hid (HO6.out.kept (grown_of2 hb7) (Classical.em _))
      have ho7 := hown7.1
      rw [show (V (enc l)).length = (enc l).length by unfold V; simp] at ho7
      clear hown7 hb7 HCB ho7
      go_wp2_with (at_builtin; refine wpList_appBw _ rfl _ _ rfl w6 v7 (enc l) rfl HO7.out HB7.out _ v2 (enc m) rfl HO27.out leP2 ?_)
      intro v8 w8 hown8 hb8 hgr8
      have lt7 : ∀ k, v7.ownBlock = some k → w6.heap.size ≤ k := fun k hk => (HO7.out.lt k hk).1
      have hown8 : w8.ownsRow w6.heap.size 5 1 v8 (enc P).length (V (enc P)) := by rw [HENC.out]; first | exact hown8 | (rw [List.length_append]; exact hown8)
      have HO58 := hid (HO57.out.kept hgr8 (ne_block w6.heap.size (fun k hk => by have := (HO56.out.lt k hk).2; omega) lt7))
      have HO48 := hid (HO47.out.kept hgr8 (ne_block w6.heap.size (fun k hk => by have := (HO46.out.lt k hk).2; omega) lt7))
      have HO68 := hid (HO67.out.kept hgr8 (ne_block w6.heap.size (fun k hk => by have := (HO6.out.lt k hk).2; omega) lt7))
      have HB8 := hid ((HB2.out.trans (HB26.out.mono HB2.out.size)).trans (hb8.mono (by omega)))
      have HS1 := hid (sameB_own _ _ (enc P).length _ v8 (enc P) w8 (by omega) HO58.out hown8)
      have HS2 := hid (fun n => sameN_own _ _ (len0 + len1) v6 _ P (w8.drewN n) (by omega) (by have t := HO68.out; rw [HZP.out] at t; exact t) HO48.out)
      clear hown8 hb8 hgr8 lt7
      go_wp2_with fail
      refine HS1.out.mono ?_
      rintro e w9 ⟨rfl, n1, rfl⟩
      go_wp2_with fail
      refine (HS2.out n1).mono ?_
      rintro e w10 ⟨rfl, n2, rfl⟩
      go_wp2_with fail
      refine (known_any _).mono ?_
      rintro e w11 ⟨rfl, hb11⟩
      have HB11 := hid ((ListB.below_drewN HB8.out (n1 + n2)).trans (hb11.mono (show w.heap.size ≤ w8.heap.size from HB8.out.size)))
      clear hb11
      go_wp2_with fail
      go_ret
      exact ⟨rfl, HB11.out⟩
theorem insnBack (a0 a1 : Option Addr) (len0 cap0 len1 cap1 : Nat) (l m : List In) (w : World) (h0 : ArgN w a0 len0 l) (h1 : ArgN w a1 len1 m) (w0 : WfL l) (w1 : WfL m) (nz1 : a1 = none → cap1 = 0) (b0 : len0 ≤ 3518437208883) (b1 : len1 ≤ 3518437208883) :
    Calls Try.prog 6 #[.slice a0 len0 cap0, .slice a1 len1 cap1] w fun e w' => e = .returned (.bool true) ∧ Below w.heap.size w w' := by
  by_cases hl : 256 < len0 + len1
  · exact back_many a0 a1 len0 cap0 len1 cap1 w hl b0 b1
  · by_cases hg : putErr l = 0 ∧ putErr m = 0
    · exact back_good a0 a1 len0 cap0 len1 cap1 l m w h0 h1 w0 w1 nz1 (by omega) hg.1 hg.2
    · exact back_bad a0 a1 len0 cap0 len1 cap1 l m w h0 h1 w0 w1 (by omega) hg
end Go.Proofs.Ytccjfnkneiggcaa.Insn
