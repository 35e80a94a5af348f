/-
  The walk of the law FlowClosed: instructions whose targets are told go on within the list.
-/
import Derived.Test.YtfmdljnagkjhdaaFlR
import Derived.Test.YtfmdljnagkjhdaaFlH
namespace Go.Proofs.Ytfmdljnagkjhdaa.Flow
open Go.RowKit Go.Proofs.Ytfmdljnagkjhdaa.Num Go.Proofs.Ytfmdljnagkjhdaa.ListB Go.Proofs.Ytfmdljnagkjhdaa.Insn
set_option maxRecDepth 100000 in
theorem flowClosed_big (a : Option Addr) (n cap : Nat) (l : List In) (pa : Option Addr) (pn pc : Nat) (w : World) (h : ArgN w a n l) (hwf : WfL l) (hm : n ≤ 9223372036854775807) (hb : bigB l = true) :
    Calls Try.prog 4 #[.slice a n cap, .slice pa pn pc] w fun e w' => e = .returned (.bool true) ∧ Below w.heap.size w w' := by
  have HB := hid (big_any a n cap l w h hwf hm)
  rw [hb] at HB
  clear h hwf hb
  go_enter Try.func4, Try.ntmps4
  go_wp2_with fail
  refine HB.out.mono ?_
  rintro e w1 ⟨rfl, hb1⟩
  have HB1 := hid hb1
  clear hb1
  go_wp2_with fail
  refine (knownF_any _).mono ?_
  rintro e w2 ⟨rfl, hb2⟩
  have HB2 := hid (HB1.out.trans (hb2.mono HB1.out.size))
  clear hb2
  go_wp2_with fail
  go_ret
  exact ⟨rfl, HB2.out⟩
set_option maxRecDepth 100000 in
theorem flowClosed_many (a : Option Addr) (n cap : Nat) (l : List In) (pa : Option Addr) (pn pc : Nat) (w : World) (h : ArgN w a n l) (hwf : WfL l) (hm : n ≤ 9223372036854775807) (hb : bigB l = false) (hp : 1000 < pn) :
    Calls Try.prog 4 #[.slice a n cap, .slice pa pn pc] w fun e w' => e = .returned (.bool true) ∧ Below w.heap.size w w' := by
  have HB := hid (big_any a n cap l w h hwf hm)
  rw [hb] at HB
  clear h hwf hb
  go_enter Try.func4, Try.ntmps4
  go_wp2_with fail
  refine HB.out.mono ?_
  rintro e w1 ⟨rfl, hb1⟩
  have HB1 := hid hb1
  clear hb1
  go_wp2_with fail
  refine (knownF_any _).mono ?_
  rintro e w2 ⟨rfl, hb2⟩
  have HB2 := hid (HB1.out.trans (hb2.mono HB1.out.size))
  clear hb2
  go_wp2_with fail
  go_ret
  exact ⟨rfl, HB2.out⟩
set_option maxRecDepth 100000 in
theorem flowClosed_err (a : Option Addr) (n cap : Nat) (l : List In) (pa : Option Addr) (pn pc : Nat) (w : World) (h : ArgN w a n l) (hwf : WfL l) (hm : n ≤ 9223372036854775807) (hb : bigB l = false) (hp : ¬ 1000 < pn) (he : errF l ≠ 0) :
    Calls Try.prog 4 #[.slice a n cap, .slice pa pn pc] w fun e w' => e = .returned (.bool true) ∧ Below w.heap.size w w' := by
  obtain ⟨hle, hok⟩ := big_no hb
  have HA := hid h
  have HB := hid (big_any a n cap l w h hwf hm)
  rw [hb] at HB
  have HO := hid (ok_off hok)
  have HOE := hid (outF_err he)
  obtain ⟨er, her⟩ : ∃ er, errF l = er := ⟨_, rfl⟩
  have hne : (er != 0) = true := by rw [← her]; simpa using he
  have HER := hid her
  clear h hwf hb hok he her hle
  go_enter Try.func4, Try.ntmps4
  go_wp2_with fail
  refine HB.out.mono ?_
  rintro e w1 ⟨rfl, hb1⟩
  have HB1 := hid hb1
  clear hb1
  go_wp2_with fail
  refine (targets_any a n cap l w1 (HA.out.up HB1.out) HO.out hm).mono ?_
  rintro e w2 ⟨tv, rfl, hown, hb2⟩
  rw [HER.out]
  rw [HOE.out] at hown
  obtain ⟨ta, tc, rfl, _⟩ := own_argI hown
  have HB2 := hid (HB1.out.trans (hb2.mono HB1.out.size))
  clear hown hb2
  rw [List.length_nil]
  go_wp2_with fail
  refine (knownF_any _).mono ?_
  rintro e w3 ⟨rfl, hb3⟩
  have HB3 := hid (HB2.out.trans (hb3.mono HB2.out.size))
  clear hb3
  go_wp2_with fail
  go_ret
  exact ⟨rfl, HB3.out⟩
theorem own_lit1 (w : World) (base k : Nat) (z : Int) (hk : w.heap.size = k) (hb : base ≤ k) : (w.alloc (.cells #[.int .i64 z] 3)).ownsRow base 3 1 (.slice (some ⟨k, 0, none⟩) 1 1) 1 (VI [z]) := by
  subst hk
  exact ⟨rfl, Or.inr ⟨w.heap.size, 1, #[.int .i64 z], rfl, hb, heap_alloc_new w _, Nat.le_refl _, by unfold maxLen; omega, rfl, rfl⟩⟩
theorem own_cellI {w : World} {base n : Nat} {v : Value} {T : List Int} (h : w.ownsRow base 3 1 v n (VI T)) {j : Nat} {z : Int} (hz : T[j]? = some z) : ∃ g c, v = .slice (some ⟨g, 0, none⟩) n c ∧ w.cell? ⟨g, j, none⟩ = some (.int .i64 z) ∧ base ≤ g ∧ g < w.heap.size ∧ T.length = n := by
  have hn : T.length = n := by have := h.1; rw [VI_length] at this; omega
  have hj := (List.getElem?_eq_some_iff.1 hz).1
  obtain ⟨g, c, rfl⟩ := own_shape h (by omega)
  have hl := h.lt g rfl
  refine ⟨g, c, rfl, ?_, hl.1, hl.2, hn⟩
  rw [h.cellAt j (by omega), VI_get T j hj, List.getD_eq_getElem?_getD, hz]; rfl
/-- The successors of one instruction, where they lie. -/
structure NextAt (w : World) (q o : Nat) (N : List Int) : Prop where
  lt : q < w.heap.size
  at' : ∀ i, i < N.length → w.cell? ⟨q, o + i, none⟩ = some (.int .i64 (N.getD i 0))
theorem NextAt.keep {w w' : World} {q o : Nat} {N : List Int} (h : NextAt w q o N) {r : Option Nat} (hg : w.grownBy w' r) (hr : some q ≠ r) : NextAt w' q o N :=
  ⟨Nat.lt_of_lt_of_le h.lt hg.size, fun i hi => (World.cell?_of_block (a := ⟨q, o + i, none⟩) (hg.block q h.lt hr)).trans (h.at' i hi)⟩
theorem wpList_appI {ops : Array Oper} {rest : List Oper} {o : Oper} {ac : Act} {Q : Exit → Act → World → Prop} (w : World) (hw : Region.wanted o (yielded ops ac.tmps) = true) (s x : Operand)
    (ho : o.op = .call { callee := .builtin .append, args := #[s, x], argTypes := #[26, 26] })
    (base : Nat) (v : Value) (n : Nat) (T : List Int) (hs : ac.eval s = v) (hown : w.ownsRow base 3 1 v n (VI T)) (k c : Nat) (z : Int) (hx : ac.eval x = .slice (some ⟨k, 0, none⟩) 1 c) (hc : w.cell? ⟨k, 0, none⟩ = some (.int .i64 z)) (hn : n ≤ 1000) (hbase : base ≤ w.heap.size)
    (h : ∀ v' w', w'.ownsRow base 3 1 v' (n + 1) (VI (T ++ [z])) → w.grownBy w' v.ownBlock → Moved w w' v v' → wpList Try.prog ops Q rest (ac.put o.dst v') w') : wpList Try.prog ops Q (o :: rest) ac w := by
  obtain ⟨i0, hi, hz0, hz1, hz2⟩ := info_parts infoInt
  refine wpList_app w hw s x 26 ho base 3 i0 (.int .i64 0) Try.underlying26 hi hz0 (by rw [hz1]; rfl) (by rw [hz1]; omega) v n (VI T) hs (by rw [hz1]; exact hown) ⟨k, 0, none⟩ 1 c [.int .i64 z] hx (by rw [hz1]; rfl) (fun j u hu => ?_) (fun u hu => ?_) (by omega) (by unfold maxLen; omega) (by rw [hz2]; omega) hbase ?_
  · match j, hu with
    | 0, hu => simp at hu; subst hu; exact hc
    | j + 1, hu => simp at hu
  · simp at hu; subst hu; rfl
  · intro v' w' h1 h2 h3
    rw [hz1, VI_snoc] at h1
    exact h v' w' h1 h2 h3
theorem moved_ne {w w' : World} {v v' : Value} (h : Moved w w' v v') {q : Nat} (hq : q < w.heap.size) (hv : v.ownBlock ≠ some q) : v'.ownBlock ≠ some q := by
  rcases h with h | ⟨_, g, h1, h2⟩
  · rw [h]; exact hv
  · rw [h1]; intro e; cases e; omega
set_option maxRecDepth 100000 in
set_option maxHeartbeats 4000000 in
theorem flowClosed_ok (a : Option Addr) (n cap : Nat) (l : List In) (pa : Option Addr) (pn pc : Nat) (ps : List Int) (w : World) (h : ArgN w a n l) (hwf : WfL l) (hm : n ≤ 9223372036854775807) (hb : bigB l = false) (hp : ¬ 1000 < pn) (he : errF l = 0)
    (hpl : ps.length = pn) (hpw : ∀ z ∈ ps, (Lit.int .i64 z).wf = true) (hpr : 0 < pn → ∃ b off, pa = some ⟨b, off, none⟩ ∧ b < w.heap.size ∧ ∀ i, i < pn → w.cell? ⟨b, off + i, none⟩ = some (.int .i64 (ps.getD i 0))) :
    Calls Try.prog 4 #[.slice a n cap, .slice pa pn pc] w fun e w' => e = .returned (.bool true) ∧ Below w.heap.size w w' := by
  obtain ⟨hle, hok⟩ := big_no hb
  obtain ⟨hS, h256, hR⟩ := errF_ok he
  have hln := h.1
  rw [hln] at hle h256
  have hn0 : 0 < n := by rw [← hln]; exact hS.pos
  obtain ⟨i0, hi, hz0, hz1, hz2⟩ := info_parts infoInt
  obtain ⟨j0, hj, hy0, hy1, hy2⟩ := info_parts infoBool
  obtain ⟨b, off, rfl, hbb, hrow⟩ := h.2 hn0
  have HA := hid h
  have HRW := hid hrow
  have HN := hid hln
  have HSD := hid hS
  have HB := hid (big_any (some ⟨b, off, none⟩) n cap l w h hwf hm)
  rw [hb] at HB
  have HO := hid (ok_off hok)
  have HTN := hid (show (tgL l).length = n by rw [tgL_length, hln])
  have HTG := hid (fun k (h : k < n) => tgL_get l k (by rw [hln]; exact h))
  have HOE := hid (outF_ok he)
  have HER := hid he
  have HRE := hid (fun i (h : i < n) => hR i (by rw [hln]; exact h))
  have HST := hid (bfs_start l n hn0)
  have HMEM := hid (fun (i : Nat) (hi : i < n) z (hz : z ∈ nxI (at' l i).op i (tgI l i)) => (show 0 ≤ z ∧ z < n by have := nxI_mem hS (show i < l.length by rw [hln]; exact hi) hz; rw [hln] at this; exact this))
  have HPW := hid hpw
  have HPR := hid hpr
  have HPL := hid hpl
  clear h hwf hb hok he hS hR hrow hpw hpr hpl
  go_enter Try.func4, Try.ntmps4
  go_wp2_with fail
  refine HB.out.mono ?_
  rintro e w1 ⟨rfl, hb1⟩
  have HB1 := hid hb1
  clear hb1
  go_wp2_with fail
  refine (targets_any (some ⟨b, off, none⟩) n cap l w1 (HA.out.up HB1.out) HO.out hm).mono ?_
  rintro e w3 ⟨tv, rfl, hown, hb3⟩
  rw [HER.out]
  have HTT := hid (own_argI hown)
  have HB3 := hid (HB1.out.trans (hb3.mono HB1.out.size))
  clear hown hb3
  rw [HOE.out] at HTT
  obtain ⟨ta, tc, hv, htr⟩ := HTT.out
  subst hv
  rw [HTN.out] at htr ⊢
  obtain ⟨tb, toff, rfl, htb, htc⟩ := htr (by omega)
  have HTC := hid htc
  clear htr htc
  go_wp2_with (at_make; refine wpList_make_full _ rfl _ _ 38 rfl w3.heap.size 4 j0 (.bool false) 1 Try.underlying38 hj hy0 hy1 .i64 .i64 _ _ n rfl rfl rfl rfl (by rw [hy2]; omega) (by unfold maxLen; omega) (Nat.le_refl _) ?_; intro w4 hown4 hgrow4; have hst := makeB_own hown4; have fr := hst.frozenAt 0; have c := (hst.cellAt 0 (by omega)).trans (VB_get _ 0 (by simpa using hn0)); clear hown4)
  have hb4 : Below w3.heap.size w3 w4 := ⟨hgrow4.os, hgrow4.tape, hgrow4.output, hgrow4.size, fun k hk => hgrow4.block k hk (by simp)⟩
  have hg := (hst.lt w3.heap.size rfl).2
  have hs1 := hst.stored 0 (.bool true)
  rw [VB_set] at hs1
  have hs1b := hb4.setCell (p := ⟨w3.heap.size, 0, none⟩) (Nat.le_refl _) (.bool true)
  have hs3 := HB3.out.size
  clear c fr hgrow4 hst
  obtain ⟨g, hgg⟩ : ∃ g, w3.heap.size = g := ⟨_, rfl⟩
  rw [hgg] at hs1 hs1b hb4 hg htb hs3 ⊢
  have HGG := hid hgg
  have HSN := hid (show (w4.setCell ⟨g, 0, none⟩ (.bool true)).ownsRow g 4 1 (.slice (some ⟨g, 0, none⟩) n n) n (VB (startR n)) from hs1.1)
  have HS4 := hid hs1b
  obtain ⟨U, hU⟩ : ∃ U, (w4.setCell ⟨g, 0, none⟩ (.bool true)).alloc (.cells #[.int .i64 0] 3) = U := ⟨_, rfl⟩
  have HOS := hid (show U.ownsRow g 4 1 (.slice (some ⟨g, 0, none⟩) n n) n (VB (startR n)) from hU ▸ HSN.out.alloc _)
  have HOT := hid (show U.ownsRow g 3 1 (.slice (some ⟨w4.heap.size, 0, none⟩) 1 1) [(0 : Int)].length (VI [0]) from hU ▸ own_lit1 _ _ _ _ (by simp) (by omega))
  have HU := hid (show Below g w3 U from hU ▸ HS4.out.alloc (by have := HS4.out.size; rw [hgg] at this; exact this) _)
  rw [hU]
  clear hU hgg hb4 hs1 hs1b
  go_loopw [8, 9] (fun v z wr => ∃ m : Nat, z = .int .i64 m ∧ Below g w3 wr ∧ ∃ T bs, m ≤ T.length ∧ T.length ≤ n ∧ wr.ownsRow g 3 1 v T.length (VI T) ∧ wr.ownsRow g 4 1 (.slice (some ⟨g, 0, none⟩) n n) n (VB bs) ∧ Hid (Bfs l n m T bs)) (fun _ z _ => n - (intOf z).toNat)
  case atStart => exact ⟨0, rfl, HU.out, [0], startR n, Nat.zero_le _, by simp; omega, HOT.out, HOS.out, HST⟩
  case round =>
    obtain ⟨m, rfl, hbel, T, bs, hmT, hTn, hownT, hownS, hbfs⟩ := hrel
    have hsg : g ≤ wr.heap.size := by have := hbel.size; rw [HGG.out] at this; exact this
    by_cases hlt : m < T.length
    · obtain ⟨u, hu⟩ : ∃ u, T[m]? = some u := ⟨_, List.getElem?_eq_getElem hlt⟩
      obtain ⟨tg, tcc, rfl, ct, htg, htgl, _⟩ := own_cellI hownT hu
      have hur := hbfs.out.rng u (List.mem_of_getElem? hu)
      obtain ⟨i, rfl⟩ : ∃ i : Nat, u = (i : Int) := ⟨u.toNat, by omega⟩
      have hbw : Below w.heap.size w wr := HB3.out.trans (hbel.mono hs3)
      have HNX := hid (next_any (some ⟨b, off, none⟩) n cap l (.slice (some ⟨tb, toff, none⟩) n tc) (tgL l) i wr
        ⟨HN.out, fun _ => ⟨b, off, rfl, Nat.lt_of_lt_of_le hbb hbw.size, HRW.out.below hbw hbb⟩⟩ ⟨_, tc, by rw [HTN.out], fun _ => ⟨tb, toff, rfl, Nat.lt_of_lt_of_le htb hsg, fun j hj => (hbel.cell (show tb < _ from htb)).trans (HTC.out j (by rw [← HTN.out]; exact hj))⟩⟩
        (by omega) (by omega) (by rw [HTN.out]; omega) (by rw [HTN.out]; omega))
      rw [HTG.out i (by omega)] at HNX
      have hnl := nxI_len (at' l i).op i (tgI l i)
      have HME := hid (HMEM.out i (by omega))
      have HUU := hid hu
      obtain ⟨N, hN⟩ : ∃ N, nxI (at' l i).op i (tgI l i) = N := ⟨_, rfl⟩
      have HNE := hid hN
      rw [hN] at HNX hnl HME
      obtain ⟨x, hx⟩ : ∃ x, l[i]? = some x := ⟨_, List.getElem?_eq_getElem (by rw [HN.out]; omega)⟩
      have hat := at_some hx
      obtain ⟨c0, _, _, _, _⟩ := (HRW.out.below hbw hbb) i x hx
      rw [hat] at hnl
      obtain ⟨op, hop⟩ : ∃ op, x.op = op := ⟨_, rfl⟩
      rw [hop] at c0 hnl
      have HBF := hid hbfs.out
      have HBL := hid hbel
      have HOT := hid hownT
      have HOS := hid hownS
      have htest : ((N.length : Int) == 0) = (op == 149) := by
        rw [Bool.eq_iff_iff, beq_iff_eq, beq_iff_eq, ← hnl.2]; omega
      have hn2 : N.length ≤ 2 := hnl.1
      clear hu hN hx hat hop hbfs hbel hownT hownS hbw hnl
      go_wp2_with fail
      refine HNX.out.mono ?_
      rintro e w5 ⟨nv, rfl, hownN, hb5⟩
      have HB5 := hid (HBL.out.trans (hb5.mono hsg))
      have HT5 := hid (HOT.out.kept (grown_of3 (r := none) hb5) (Classical.em _))
      have HS5 := hid (HOS.out.kept (grown_of3 (r := none) hb5) (Classical.em _))
      obtain ⟨na, nc, hv, hnr⟩ := own_argI hownN
      have hna : ∀ q o, na = some ⟨q, o, none⟩ → wr.heap.size ≤ q := fun q o hq => (hownN.lt q (by rw [hv, hq]; rfl)).1
      subst hv
      have HNR := hid hnr
      have HNA := hid hna
      have ct5 := (HT5.out.cellAt m (by omega)).trans (VI_get T m hlt)
      rw [List.getD_eq_getElem?_getD, HUU.out] at ct5
      simp only [Option.getD_some] at ct5
      have c05 := (hb5.cell (p := ⟨b, off + i * 5, none⟩) (show b < wr.heap.size from Nat.lt_of_lt_of_le hbb (Nat.le_trans hs3 hsg))).trans c0
      have hgq : tg < wr.heap.size := htgl
      have htest2 : ((op == 149) != (op == 149)) = false := by simp
      clear hownN hb5 hnr hna ct c0
      have hi0 : (0 : Int) ≤ (i : Int) := by omega
      have hi1 : (i : Int) < (n : Int) := by omega
      have hn2' : ¬ ((2 : Int) < (N.length : Int)) := by omega
      obtain ⟨V, hV⟩ : ∃ V, V = wr := ⟨_, rfl⟩
      subst hV
      have HNQ := hid (show 0 < N.length → ∃ q o, na = some ⟨q, o, none⟩ ∧ NextAt w5 q o N ∧ (Value.slice (some ⟨tg, 0, none⟩) T.length tcc).ownBlock ≠ some q from fun h0 => by
        obtain ⟨q, o, hq, hlq, hcq⟩ := HNR.out h0
        refine ⟨q, o, hq, ⟨hlq, hcq⟩, ?_⟩
        have := HNA.out q o hq
        simp [Value.ownBlock]; omega)
      go_wp2_with fail
      go_loopw [8, 11] (fun v z wr => ∃ k : Nat, k ≤ N.length ∧ z = .int .i64 k ∧ Below g w3 wr ∧ ∃ T' bs', T'.length ≤ n ∧ wr.ownsRow g 3 1 v T'.length (VI T') ∧ wr.ownsRow g 4 1 (.slice (some ⟨g, 0, none⟩) n n) n (VB bs') ∧ Hid (Bfs l n m T' bs') ∧ Hid (T'[m]? = some (i : Int)) ∧ Hid (∀ x ∈ N.take k, x ∈ T') ∧
          Hid (0 < N.length → ∃ q o, na = some ⟨q, o, none⟩ ∧ NextAt wr q o N ∧ v.ownBlock ≠ some q)) (fun _ z _ => N.length - (intOf z).toNat)
      case atStart => exact ⟨0, Nat.zero_le _, rfl, HB5.out, T, bs, hTn, HT5.out, HS5.out, HBF, HUU, hid (fun x hx => by simp at hx), HNQ⟩
      case round =>
        obtain ⟨k, hk, rfl, hbel, T', bs', hTn', hownT, hownS, HBF', HUU', HTK, HQ⟩ := hrel
        have hsg' : g ≤ wr.heap.size := by have := hbel.size; rw [HGG.out] at this; exact this
        by_cases hltk : k < N.length
        · obtain ⟨q, o, rfl, hnx, hvq⟩ := HQ.out (by omega)
          obtain ⟨z, hz⟩ : ∃ z, N[k]? = some z := ⟨_, List.getElem?_eq_getElem hltk⟩
          have hzm := HME.out z (List.mem_of_getElem? hz)
          obtain ⟨j, rfl⟩ : ∃ j : Nat, z = (j : Int) := ⟨z.toNat, by omega⟩
          have HZZ := hid hz
          have cz := hnx.at' k hltk
          rw [List.getD_eq_getElem?_getD, hz] at cz
          simp only [Option.getD_some] at cz
          have hqg : q ≠ g := by have := HNA.out q o rfl; have := (HOS.out.lt g rfl).2; omega
          have cs := (hownS.cellAt j (by omega)).trans (VB_get bs' j (by rw [HBF'.out.len]; omega))
          have hj0 : (0 : Int) ≤ (j : Int) := by omega
          have hj1 : (j : Int) < (n : Int) := by omega
          have hj2 : ¬ ((n : Int) ≤ (j : Int)) := by omega
          have HBL' := hid hbel
          have HOT' := hid hownT
          have HOS' := hid hownS
          have HNX' := hid hnx
          have HVQ := hid hvq
          clear hz hzm hbel hnx hvq
          cases hbj : bs'.getD j false
          case true =>
            rw [hbj] at cs
            have HK2 := hid (take_mem HTK.out HZZ.out ((HBF'.out.mem j).1 hbj))
            have HQ2 := hid (show 0 < N.length → ∃ q' o', (some (⟨q, o, none⟩ : Addr)) = some ⟨q', o', none⟩ ∧ NextAt wr q' o' N ∧ _ ≠ some q' from fun _ => ⟨q, o, rfl, HNX'.out, HVQ.out⟩)
            clear hbj hownT hownS
            go_wp2_with fail
            go_roundw
            case rel => exact ⟨k + 1, by omega, by go_num, HBL'.out, T', bs', hTn', HOT'.out, HOS'.out, HBF', HUU', HK2, HQ2⟩
            case measure => simp [intOf]; omega
          case false =>
            rw [hbj] at cs
            have HB2 := hid (bfs_add HBF'.out j (by omega) (by have := (List.getElem?_eq_some_iff.1 HUU'.out).1; omega) hbj)
            have HU2 := hid (show (T' ++ [(j : Int)])[m]? = some (i : Int) from by rw [List.getElem?_append_left (List.getElem?_eq_some_iff.1 HUU'.out).1]; exact HUU'.out)
            have HK2 := hid (take_mem (fun x hx => List.mem_append_left _ (HTK.out x hx)) HZZ.out (List.mem_append_right T' (List.mem_singleton.2 rfl)))
            have fr := hownS.frozenAt j
            have hst := hownS.stored j (.bool true)
            rw [VB_set] at hst
            have hT1 := hownT.kept hst.2 (own_diff hownT hownS (by decide))
            have hN1 := HNX'.out.keep hst.2 (by simpa [Value.ownBlock] using hqg)
            have cz1 := hN1.at' k hltk
            rw [List.getD_eq_getElem?_getD, HZZ.out] at cz1
            simp only [Option.getD_some] at cz1
            have hB1 := HBL'.out.setCell (p := ⟨g, j, none⟩) (by simp) (.bool true)
            have HN1 := hid hN1
            have HT1 := hid hT1
            have HS1 := hid hst.1
            have HB1' := hid hB1
            have hle' := bfs_le HB2.out
            have hle2 : T'.length + 1 ≤ n := by simpa using hle'
            clear hbj hownT hownS hst hT1 hN1 hB1 hle'
            go_wp2_with (at_builtin; refine wpList_appI _ rfl _ _ rfl g _ _ T' rfl (HT1.out.alloc _) _ _ (j : Int) rfl (new_cell (by simp) rfl) (by omega) (by simp; omega) ?_)
            intro v' w6 hown6 hgr6 hmv6
            have HT6 := hid (show w6.ownsRow g 3 1 v' (T' ++ [(j : Int)]).length (VI (T' ++ [(j : Int)])) from by rw [List.length_append]; exact hown6)
            have HS6 := hid ((HS1.out.alloc (.cells #[.int .i64 (j : Int)] 3)).kept hgr6 (own_diff (HS1.out.alloc (.cells #[.int .i64 (j : Int)] 3)) (HT1.out.alloc (.cells #[.int .i64 (j : Int)] 3)) (by decide)))
            have hal : NextAt ((wr.setCell ⟨g, j, none⟩ (.bool true)).alloc (.cells #[.int .i64 (j : Int)] 3)) q o N := HN1.out.keep (grown_of3 (r := none) (below_new _ _)) (by simp)
            have hv1 : _ ≠ some q := HVQ.out
            have HN6 := hid (hal.keep hgr6 (fun e => hv1 e.symm))
            have HV6 := hid (moved_ne hmv6 hal.lt hv1)
            have HQ2 := hid (show 0 < N.length → ∃ q' o', (some (⟨q, o, none⟩ : Addr)) = some ⟨q', o', none⟩ ∧ NextAt w6 q' o' N ∧ v'.ownBlock ≠ some q' from fun _ => ⟨q, o, rfl, HN6.out, HV6.out⟩)
            have hB2 := HB1'.out.alloc (show g ≤ _ by simp; omega) (.cells #[.int .i64 (j : Int)] 3)
            have HB6 := hid (hB2.grown hgr6 (by simp; omega) (fun x hx => ((HT1.out.alloc (.cells #[.int .i64 (j : Int)] 3)).lt x hx).1))
            clear hown6 hgr6 hmv6 hal hv1 hB2 cs cz cz1 fr
            go_wp2_with fail
            go_roundw
            case rel => exact ⟨k + 1, by omega, by go_num, HB6.out, _, _, by simpa using hle2, HT6.out, HS6.out, HB2, HU2, HK2, HQ2⟩
            case measure => simp [intOf]; omega
        · have hkn : k = N.length := by omega
          have HK := hid (show ∀ x ∈ N, x ∈ T' from fun x hx => HTK.out x (by rw [hkn, List.take_length]; exact hx))
          have HB7 := hid (bfs_next HBF'.out HUU'.out (by rw [show ((i : Int)).toNat = i from Int.toNat_natCast i, HNE.out]; exact HK.out))
          have hge : N.length ≤ k := by omega
          have hm1 : m + 1 ≤ T'.length := (List.getElem?_eq_some_iff.1 HUU'.out).1
          have HBL' := hid hbel
          have HOT' := hid hownT
          have HOS' := hid hownS
          clear hkn hbel hownT hownS
          go_wp2_with fail
          go_roundw
          case rel => exact ⟨m + 1, by go_num, HBL'.out, T', bs', hm1, hTn', HOT'.out, HOS'.out, HB7⟩
          case measure => simp [intOf]; omega
    · have HLEN := hid (bfs_end hbfs.out (by omega) HRE.out)
      have HBL := hid hbel
      have hge : T.length ≤ m := by omega
      obtain ⟨ta2, tc2, hv2, _⟩ := own_argI hownT
      subst hv2
      rw [HLEN.out] at hge ⊢
      clear hbel hownT hownS hlt hmT hTn
      obtain ⟨V, hV⟩ : ∃ V, V = wr := ⟨_, rfl⟩
      subst hV
      go_wp2_with fail
      rw [show decide (m < n) = false from decide_eq_false (by omega)]
      clear hge
      go_loopw [12, 13] (fun c z wr => ∃ k i : Nat, k ≤ pn ∧ i < n ∧ c = .int .i64 i ∧ z = .int .i64 k ∧ Below g w3 wr) (fun _ z _ => pn - (intOf z).toNat)
      case atStart => exact ⟨0, 0, Nat.zero_le _, hn0, rfl, rfl, HBL.out⟩
      case round =>
        obtain ⟨k, i, hk, hin, rfl, rfl, hbel⟩ := hrel
        have hsg' : g ≤ wr.heap.size := by have := hbel.size; rw [HGG.out] at this; exact this
        have hbw : Below w.heap.size w wr := HB3.out.trans (hbel.mono hs3)
        have HBW := hid hbw
        by_cases hltk : k < pn
        · have HNX := hid (next_any (some ⟨b, off, none⟩) n cap l (.slice (some ⟨tb, toff, none⟩) n tc) (tgL l) i wr
            ⟨HN.out, fun _ => ⟨b, off, rfl, Nat.lt_of_lt_of_le hbb hbw.size, HRW.out.below hbw hbb⟩⟩ ⟨_, tc, by rw [HTN.out], fun _ => ⟨tb, toff, rfl, Nat.lt_of_lt_of_le htb hsg', fun j hj => (hbel.cell (show tb < _ from htb)).trans (HTC.out j (by rw [← HTN.out]; exact hj))⟩⟩
            (by omega) hin (by rw [HTN.out]; omega) (by rw [HTN.out]; omega))
          rw [HTG.out i hin] at HNX
          have hnl := nxI_len (at' l i).op i (tgI l i)
          have HME := hid (HMEM.out i hin)
          obtain ⟨N, hN⟩ : ∃ N, nxI (at' l i).op i (tgI l i) = N := ⟨_, rfl⟩
          rw [hN] at HNX hnl HME
          obtain ⟨x, hx⟩ : ∃ x, l[i]? = some x := ⟨_, List.getElem?_eq_getElem (by rw [HN.out]; omega)⟩
          have hat := at_some hx
          obtain ⟨c0, _, _, _, _⟩ := (HRW.out.below hbw hbb) i x hx
          rw [hat] at hnl
          obtain ⟨op, hop⟩ : ∃ op, x.op = op := ⟨_, rfl⟩
          rw [hop] at c0 hnl
          obtain ⟨pb, poff, rfl, hpb, hpc⟩ := HPR.out (by omega)
          have cp := (hbw.cell (show pb < _ from hpb)).trans (hpc k hltk)
          have hpwf := HPW.out (ps.getD k 0) (by rw [List.getD_eq_getElem?_getD, List.getElem?_eq_getElem (by rw [HPL.out]; exact hltk)]; exact List.getElem_mem _)
          generalize ps.getD k 0 = pk at cp hpwf
          have HPK := hid (fun (m : Nat) w (h0 : 0 < m) (h1 : m ≤ 1000) => pickF_any pk m w hpwf h0 h1)
          have HNL := hid hnl
          have hn2 : N.length ≤ 2 := hnl.1
          have hi0 : (0 : Int) ≤ (i : Int) := by omega
          have hi1 : (i : Int) < (n : Int) := by omega
          have HBL' := hid hbel
          have hszw := hbw.size
          clear hN hx hat hop hnl hbel hbw hpc hpwf
          go_wp2_with fail
          refine HNX.out.mono ?_
          rintro e w5 ⟨nv, rfl, hownN, hb5⟩
          have HB5 := hid (HBL'.out.trans (hb5.mono hsg'))
          have HW5 := hid (HBW.out.trans (hb5.mono hszw))
          obtain ⟨na, nc, hv, hnr⟩ := own_argI hownN
          subst hv
          have HNR := hid hnr
          have c05 := (hb5.cell (p := ⟨b, off + i * 5, none⟩) (show b < wr.heap.size from Nat.lt_of_lt_of_le hbb hszw)).trans c0
          have cp5 := (hb5.cell (p := ⟨pb, poff + k, none⟩) (show pb < wr.heap.size from Nat.lt_of_lt_of_le hpb hszw)).trans cp
          clear hownN hb5 hnr c0 cp
          by_cases h0 : N.length = 0
          · have h149 := HNL.out.2.1 h0
            subst h149
            rw [h0]
            go_wp2_with fail
            refine (knownF_any _).mono ?_
            rintro e w6 ⟨rfl, hb6⟩
            have HB6 := hid (HW5.out.trans (hb6.mono HW5.out.size))
            clear hb6
            go_wp2_with fail
            go_ret
            exact ⟨rfl, HB6.out⟩
          · obtain ⟨q, o, rfl, hlq, hcq⟩ := HNR.out (by omega)
            have hne0 : ((N.length : Int) == 0) = false := beq_eq_false_iff_ne.2 (by omega)
            have HCQ := hid hcq
            clear hcq
            go_wp2_with fail
            refine (HPK.out N.length _ (by omega) (by omega)).mono ?_
            rintro e w6 ⟨⟨r, hr, rfl⟩, rfl⟩
            obtain ⟨z, hz⟩ : ∃ z, N[r]? = some z := ⟨_, List.getElem?_eq_getElem hr⟩
            have hzm := HME.out z (List.mem_of_getElem? hz)
            obtain ⟨j, rfl⟩ : ∃ j : Nat, z = (j : Int) := ⟨z.toNat, by omega⟩
            have cr := HCQ.out r hr
            rw [List.getD_eq_getElem?_getD, hz] at cr
            simp only [Option.getD_some] at cr
            have hr0 : (0 : Int) ≤ (r : Int) := by omega
            have hr1 : (r : Int) < (N.length : Int) := by omega
            have hjn : j < n := by omega
            clear hz hzm
            go_wp2_with fail
            go_roundw
            case rel => exact ⟨k + 1, j, by omega, hjn, rfl, by go_num, HB5.out⟩
            case measure => simp [intOf]; omega
        · have hge2 : pn ≤ k := by omega
          clear hbel hbw
          go_wp2_with fail
          refine (knownF_any _).mono ?_
          rintro e w6 ⟨rfl, hb6⟩
          have HB6 := hid (HBW.out.trans (hb6.mono HBW.out.size))
          clear hb6
          go_wp2_with fail
          go_ret
          exact ⟨rfl, HB6.out⟩
theorem flowClosed (a : Option Addr) (n cap : Nat) (l : List In) (pa : Option Addr) (pn pc : Nat) (ps : List Int) (w : World) (h : ArgN w a n l) (hwf : WfL l) (hc : n ≤ cap) (hm : cap ≤ 9223372036854775807)
    (hpl : ps.length = pn) (hpw : ∀ z ∈ ps, (Lit.int .i64 z).wf = true) (hpr : 0 < pn → ∃ b off, pa = some ⟨b, off, none⟩ ∧ b < w.heap.size ∧ ∀ i, i < pn → w.cell? ⟨b, off + i, none⟩ = some (.int .i64 (ps.getD i 0))) :
    Calls Try.prog 4 #[.slice a n cap, .slice pa pn pc] w fun e w' => e = .returned (.bool true) ∧ Below w.heap.size w w' := by
  cases hb : bigB l
  · by_cases hp : 1000 < pn
    · exact flowClosed_many a n cap l pa pn pc w h hwf (by omega) hb hp
    · by_cases he : errF l = 0
      · exact flowClosed_ok a n cap l pa pn pc ps w h hwf (by omega) hb hp he hpl hpw hpr
      · exact flowClosed_err a n cap l pa pn pc w h hwf (by omega) hb hp he
  · exact flowClosed_big a n cap l pa pn pc w h hwf (by omega) hb
end Go.Proofs.Ytfmdljnagkjhdaa.Flow
