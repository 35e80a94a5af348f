/-
  Proved: whatever the arguments, the Go function FlowTells returns true, and each argument reads afterwards as it read before (the given statement FlowTellsSaid).
  Conditions: none.
-/
import Derived.Test.YtfmdljnagkjhdaaFlY
import Derived.Test.YtfmdljnagkjhdaaFlK
import Derived.Test.YtfmdljnagkjhdaaRows
import Derived.WalkKit
import Derived.ProofKit
import Derived.OpenShut
import Derived.ShutString
import Derived.ChangeOld
import Derived.Below
import Derived.SizedLaws
import Derived.Test.YtfmdljnagkjhdaaJoin
namespace Go.Proofs.Ytfmdljnagkjhdaa.Flow
open Go.RowKit Go.Proofs.Ytfmdljnagkjhdaa.Num Go.Proofs.Ytfmdljnagkjhdaa.ListB Go.Proofs.Ytfmdljnagkjhdaa.Insn
/-- What is marked amid the successors of one that is marked. -/
def part (nx : Nat → List Nat) (s : List Bool) (i k : Nat) : List Bool := ((nx i).take k).foldl (fun s j => s.set j true) s
theorem part_zero (nx : Nat → List Nat) (s : List Bool) (i : Nat) : part nx s i 0 = s := by simp [part]
theorem part_succ {nx : Nat → List Nat} {s : List Bool} {i k j : Nat} (h : (nx i)[k]? = some j) : part nx s i (k + 1) = (part nx s i k).set j true := by
  obtain ⟨hk, e⟩ := List.getElem?_eq_some_iff.1 h
  unfold part
  rw [List.take_succ_eq_append_getElem hk, List.foldl_append, e]; rfl
theorem part_done {nx : Nat → List Nat} {s : List Bool} {i k : Nat} (h : (nx i).length ≤ k) (hs : s.getD i false = true) : part nx s i k = markR nx s i := by
  unfold part markR; rw [List.take_of_length_le h, if_pos hs]
theorem part_length (nx : Nat → List Nat) (s : List Bool) (i k : Nat) : (part nx s i k).length = s.length := (le_fold _ s).1.symm
theorem part_has {nx : Nat → List Nat} {s : List Bool} {i k : Nat} (hs : s.getD i false = true) : (part nx s i k).getD i false = true := (le_fold _ s).2 i hs
theorem mark_none {nx : Nat → List Nat} {s : List Bool} {i : Nat} (hs : s.getD i false = false) : markR nx s i = s := by unfold markR; rw [hs]; rfl
/-- The marks amid a round. -/
def amid (nx : Nat → List Nat) (s : List Bool) (i : Nat) : List Bool := (List.range i).foldl (markR nx) s
theorem amid_succ (nx : Nat → List Nat) (s : List Bool) (i : Nat) : amid nx s (i + 1) = markR nx (amid nx s i) i := by
  unfold amid; rw [List.range_succ, List.foldl_append]; rfl
theorem amid_length (nx : Nat → List Nat) (s : List Bool) (i : Nat) : (amid nx s i).length = s.length := (le_marks nx _ s).1.symm
theorem iter_length (nx : Nat → List Nat) (n k : Nat) : (iterR nx n k (startR n)).length = n := (iter_le nx n k _).1.symm.trans (startR_length n)
set_option maxRecDepth 100000 in
set_option maxHeartbeats 4000000 in
theorem rreached_any (b off n cap tb toff tc : Nat) (l : List In) (w : World) (hln : l.length = n) (hb : b < w.heap.size) (hr : NRow w b off l) (htb : tb < w.heap.size) (htc : ∀ i, i < n → w.cell? ⟨tb, toff + i, none⟩ = some (.int .i64 ((tgL l).getD i 0)))
    (hn : n ≤ 1000) (hS : Sound l) :
    Calls Try.prog 38 #[.slice (some ⟨b, off, none⟩) n cap, .slice (some ⟨tb, toff, none⟩) n tc] w (ReachPost w n (refR (nxt l) n)) := by
  obtain ⟨j0, hj, hy0, hy1, hy2⟩ := info_parts infoBool
  have hn0 : 0 < n := by rw [← hln]; exact hS.pos
  have HR := hid hr
  have HTC := hid htc
  have HN := hid hln
  have HRN := hid (fun (i : Nat) (hi : i < n) (x : In) (hx : l[i]? = some x) wr (hB : Below w.heap.size w wr) => rnext_any b off n cap tb toff n tc l i x (tgI l i) wr ⟨hx, hi, hi, (hr.below hB hb i x hx).1, Nat.lt_of_lt_of_le hb hB.size,
      by rw [← tgL_get l i (by rw [hln]; exact hi)]; exact (hB.cell (show tb < _ from htb)).trans (htc i hi), Nat.lt_of_lt_of_le htb hB.size,
      fun h => (landB_iff l).1 hS.land i (by rw [hln]; exact hi) (by rw [at_some hx]; exact h), fun h => tgI_no (by rw [at_some hx]; exact h)⟩ hn)
  have HM := hid (fun (i : Nat) (hi : i < n) z (hz : z ∈ nxI (at' l i).op i (tgI l i)) => (show 0 ≤ z ∧ z < n by have := nxI_mem hS (show i < l.length by rw [hln]; exact hi) hz; rw [hln] at this; exact this))
  have HAT := hid (fun i k z => nxt_at l i k z)
  have HNL := hid (fun i => (show (nxt l i).length = (nxI (at' l i).op i (tgI l i)).length by unfold nxt; simp))
  clear hr htc hln hS
  unfold ReachPost
  go_enter Try.func38, Try.ntmps38
  go_wp2_with (at_make; refine wpList_make_full _ rfl _ _ 38 rfl w.heap.size 4 j0 (.bool false) 1 Try.underlying38 hj hy0 hy1 .i64 .i64 _ _ n rfl rfl rfl rfl (by rw [hy2]; omega) (by unfold maxLen; omega) (Nat.le_refl _) ?_; intro w1 hown1 hgrow1; have hst := makeB_own hown1; have fr := hst.frozenAt 0; have c := (hst.cellAt 0 (by omega)).trans (VB_get _ 0 (by simp; omega)); clear hown1)
  have hb1 : Below w.heap.size w w1 := ⟨hgrow1.os, hgrow1.tape, hgrow1.output, hgrow1.size, fun k hk => hgrow1.block k hk (by simp)⟩
  have hs1 := hst.stored 0 (.bool true)
  rw [VB_set] at hs1
  have HO1 := hid (show (w1.setCell ⟨w.heap.size, 0, none⟩ (.bool true)).ownsRow w.heap.size 4 1 (.slice (some ⟨w.heap.size, 0, none⟩) n n) n (VB (iterR (nxt l) n 0 (startR n))) from hs1.1)
  have HB1 := hid (hb1.setCell (p := ⟨w.heap.size, 0, none⟩) (Nat.le_refl _) (.bool true))
  clear c fr hgrow1 hst hb1 hs1
  obtain ⟨g, hg⟩ : ∃ g, w.heap.size = g := ⟨_, rfl⟩
  have HG := hid hg
  rw [hg] at HO1 HB1 hb htb ⊢
  clear hg
  go_loopw [6] (fun z wr => ∃ r : Nat, r ≤ n ∧ z = .int .i64 r ∧ wr.ownsRow g 4 1 (.slice (some ⟨g, 0, none⟩) n n) n (VB (iterR (nxt l) n r (startR n))) ∧ Below g w wr) (fun z _ => n - (intOf z).toNat)
  case atStart => exact ⟨0, Nat.zero_le _, rfl, HO1.out, HB1.out⟩
  case round =>
    obtain ⟨r, hrn, rfl, hown, hbel⟩ := hrel
    by_cases hlt : r < n
    · have HO2 := hid hown
      have HB2 := hid hbel
      have HSL := hid (iter_length (nxt l) n r)
      obtain ⟨s0, hs0⟩ : ∃ s0, iterR (nxt l) n r (startR n) = s0 := ⟨_, rfl⟩
      have HS0 := hid (show iterR (nxt l) n (r + 1) (startR n) = amid (nxt l) s0 n from by rw [← hs0]; rfl)
      rw [hs0] at HO2 HSL
      obtain ⟨V, hV⟩ : ∃ V, V = wr := ⟨_, rfl⟩
      subst hV
      clear hown hbel hs0
      go_wp2_with fail
      go_loopw [7] (fun z wr => ∃ i : Nat, i ≤ n ∧ z = .int .i64 i ∧ wr.ownsRow g 4 1 (.slice (some ⟨g, 0, none⟩) n n) n (VB (amid (nxt l) s0 i)) ∧ Below g w wr) (fun z _ => n - (intOf z).toNat)
      case atStart => exact ⟨0, Nat.zero_le _, rfl, HO2.out, HB2.out⟩
      case round =>
        obtain ⟨i, hin, rfl, hown, hbel⟩ := hrel
        by_cases hlti : i < n
        · obtain ⟨x, hx⟩ : ∃ x, l[i]? = some x := ⟨_, List.getElem?_eq_getElem (by rw [HN.out]; exact hlti)⟩
          have HRX := hid (HRN.out i hlti x hx wr (by rw [HG.out]; exact hbel))
          have hat := at_some hx
          have HMX := hid (HM.out i hlti)
          rw [← hat] at HRX
          have HNN := hid (HAT.out i)
          have hnl := HNL.out i
          have hn2 := (nxI_len (at' l i).op i (tgI l i)).1
          obtain ⟨N, hN⟩ : ∃ N, nxI (at' l i).op i (tgI l i) = N := ⟨_, rfl⟩
          rw [hN] at HRX HMX HNN hnl hn2
          have HNL' := hid hnl
          have HO3 := hid hown
          have HB3 := hid hbel
          have HA := hid (amid_succ (nxt l) s0 i)
          have hsl : (amid (nxt l) s0 i).length = n := (amid_length _ _ _).trans HSL.out
          obtain ⟨s1, hs1⟩ : ∃ s1, amid (nxt l) s0 i = s1 := ⟨_, rfl⟩
          rw [hs1] at HO3 HA hsl
          have HSL1 := hid hsl
          have hgw := (hown.lt g rfl).2
          obtain ⟨V2, hV2⟩ : ∃ V2, V2 = wr := ⟨_, rfl⟩
          subst hV2
          clear hx hat hN hown hbel hs1 hsl hnl
          go_wp2_with fail
          refine HRX.out.mono ?_
          rintro e w5 ⟨nv, rfl, hownN, hb5⟩
          have HB5 := hid (HB3.out.trans (hb5.mono (by omega)))
          have HO5 := hid (HO3.out.kept (grown_of3 (r := none) hb5) (Classical.em _))
          obtain ⟨na, nc, hv, hnr⟩ := own_argI hownN
          have hna : ∀ q o, na = some ⟨q, o, none⟩ → q ≠ g := fun q o hq => by have := (hownN.lt q (by rw [hv, hq]; rfl)).1; omega
          subst hv
          have HNA := hid hna
          have HNQ := hid (show 0 < N.length → ∃ q o, na = some ⟨q, o, none⟩ ∧ NextAt w5 q o N from fun h0 => by obtain ⟨q, o, hq, h1, h2⟩ := hnr h0; exact ⟨q, o, hq, h1, h2⟩)
          clear hownN hb5 hnr hna
          have hi0 : (0 : Int) ≤ (i : Int) := by omega
          have hi1 : (i : Int) < (n : Int) := by omega
          go_wp2_with fail
          go_loopw [9] (fun z wr => ∃ k : Nat, k ≤ N.length ∧ z = .int .i64 k ∧ Hid (0 < k → s1.getD i false = true) ∧ wr.ownsRow g 4 1 (.slice (some ⟨g, 0, none⟩) n n) n (VB (part (nxt l) s1 i k)) ∧ Below g w wr ∧ Hid (0 < N.length → ∃ q o, na = some ⟨q, o, none⟩ ∧ NextAt wr q o N)) (fun z _ => N.length - (intOf z).toNat)
          case atStart => exact ⟨0, Nat.zero_le _, rfl, hid (fun h => absurd h (by omega)), by rw [part_zero]; exact HO5.out, HB5.out, HNQ⟩
          case round =>
            obtain ⟨k, hk, rfl, hpos, hown, hbel, HQ⟩ := hrel
            have hsi := (hown.cellAt i (by omega)).trans (VB_get _ i (by rw [part_length, HSL1.out]; exact hlti))
            by_cases hltk : k < N.length
            · obtain ⟨q, o, rfl, hnx⟩ := HQ.out (by omega)
              cases hbi : s1.getD i false
              · have hk0 : k = 0 := by
                  rcases Nat.eq_zero_or_pos k with h0 | h0
                  · exact h0
                  · rw [hpos.out h0] at hbi; cases hbi
                subst hk0
                rw [part_zero] at hsi hown
                rw [hbi] at hsi
                have HO6 := hid (show wr.ownsRow g 4 1 (.slice (some ⟨g, 0, none⟩) n n) n (VB (amid (nxt l) s0 (i + 1))) from by rw [HA.out, mark_none hbi]; exact hown)
                have HB6 := hid hbel
                clear hbi hpos hown hbel hnx
                go_wp2_with fail
                go_roundw
                case rel => exact ⟨i + 1, by omega, by go_num, HO6.out, HB6.out⟩
                case measure => simp [intOf]; omega
              · rw [part_has hbi] at hsi
                obtain ⟨z, hz⟩ : ∃ z, N[k]? = some z := ⟨_, List.getElem?_eq_getElem hltk⟩
                have hzm := HMX.out z (List.mem_of_getElem? hz)
                have hzn := HNN.out k z hz
                obtain ⟨j, rfl⟩ : ∃ j : Nat, z = (j : Int) := ⟨z.toNat, by omega⟩
                rw [Int.toNat_natCast] at hzn
                have cz := hnx.at' k hltk
                rw [List.getD_eq_getElem?_getD, hz] at cz
                simp only [Option.getD_some] at cz
                have fr := hown.frozenAt j
                have cs := (hown.cellAt j (by omega)).trans (VB_get _ j (by rw [part_length, HSL1.out]; omega))
                have hst := hown.stored j (.bool true)
                rw [VB_set, ← part_succ hzn] at hst
                have HQ2 := hid (show 0 < N.length → ∃ q' o', (some (⟨q, o, none⟩ : Addr)) = some ⟨q', o', none⟩ ∧ NextAt (wr.setCell ⟨g, j, none⟩ (.bool true)) q' o' N from fun _ => ⟨q, o, rfl, hnx.keep hst.2 (by have := HNA.out q o rfl; simpa [Value.ownBlock] using this)⟩)
                have HO6 := hid hst.1
                have HB6 := hid (hbel.setCell (p := ⟨g, j, none⟩) (by simp) (.bool true))
                have HBI := hid hbi
                have hj0 : (0 : Int) ≤ (j : Int) := by omega
                have hj1 : (j : Int) < (n : Int) := by omega
                generalize (part (nxt l) s1 i k).getD j false = yb at cs
                clear hbi hz hzm hzn hst hown hbel hnx hpos
                go_wp2_with fail
                go_roundw
                case rel => exact ⟨k + 1, by omega, by go_num, hid (fun _ => by first | exact HBI.out | trivial), HO6.out, HB6.out, HQ2⟩
                case measure => simp [intOf]; omega
            · have HO6 := hid (show wr.ownsRow g 4 1 (.slice (some ⟨g, 0, none⟩) n n) n (VB (amid (nxt l) s0 (i + 1))) from by
                cases hbi : s1.getD i false
                · have hk0 : k = 0 := by
                    rcases Nat.eq_zero_or_pos k with h0 | h0
                    · exact h0
                    · rw [hpos.out h0] at hbi; cases hbi
                  subst hk0
                  rw [part_zero] at hown
                  rw [HA.out, mark_none hbi]; exact hown
                · rw [HA.out, ← part_done (k := k) (by rw [HNL'.out]; omega) hbi]; exact hown)
              have HB6 := hid hbel
              have hge : N.length ≤ k := by omega
              clear hpos hown hbel hsi
              go_wp2_with fail
              go_roundw
              case rel => exact ⟨i + 1, by omega, by go_num, HO6.out, HB6.out⟩
              case measure => simp [intOf]; omega
        · have hi2 : i = n := by omega
          have HO6 := hid (show wr.ownsRow g 4 1 (.slice (some ⟨g, 0, none⟩) n n) n (VB (iterR (nxt l) n (r + 1) (startR n))) from by rw [HS0.out, ← hi2]; exact hi2 ▸ hown)
          have HB6 := hid hbel
          have hge : n ≤ i := by omega
          clear hi2 hown hbel
          go_wp2_with fail
          go_roundw
          case rel => exact ⟨r + 1, by omega, by go_num, HO6.out, HB6.out⟩
          case measure => simp [intOf]; omega
    · have hr2 : r = n := by omega
      have HO6 := hid (show wr.ownsRow g 4 1 (.slice (some ⟨g, 0, none⟩) n n) n (VB (refR (nxt l) n)) from by unfold refR; exact hr2 ▸ hown)
      have HB6 := hid hbel
      have hge : n ≤ r := by omega
      clear hr2 hown hbel
      go_wp2_with fail
      go_ret
      exact ⟨g, rfl, by rw [HG.out]; exact HO6.out, by rw [HG.out]; exact HB6.out⟩
end Go.Proofs.Ytfmdljnagkjhdaa.Flow

namespace Go.Proofs.Ytfmdljnagkjhdaa.Flow
open Go.RowKit Go.Proofs.Ytfmdljnagkjhdaa.Num Go.Proofs.Ytfmdljnagkjhdaa.ListB Go.Proofs.Ytfmdljnagkjhdaa.Insn
theorem tgL_take (l : List In) (k : Nat) (h : k < l.length) : VI ((tgL l).take k) ++ [.int .i64 (tgI l k)] = VI ((tgL l).take (k + 1)) := by
  have := snocI (tgL l) k (by rw [tgL_length]; exact h)
  rw [tgL_get l k h] at this
  exact this
theorem tgI_find {l : List In} {k : Nat} {x : In} (hx : l[k]? = some x) (hj : jmpB x.op = true) : tgI l k = orNo (findP l ((plc l k : Int) + 1 + x.o)) := by
  unfold tgI wantP; rw [at_some hx, hj]; rfl
/-- The loop of the document's Targets, and what comes behind it. -/
structure TIn (w : World) (b off n : Nat) (l : List In) : Prop where
  ln : l.length = n
  hb : b < w.heap.size
  hr : NRow w b off l
  off : OffL l
  op : ∀ (k : Nat) (x : In), l[k]? = some x → 0 ≤ x.op
  n0 : 0 < n
  n1 : n ≤ 256
set_option maxRecDepth 100000 in
set_option maxHeartbeats 4000000 in
theorem rtargets_few (b off n cap : Nat) (l : List In) (w : World) (h : TIn w b off n l) :
    Calls Try.prog 12 #[.slice (some ⟨b, off, none⟩) n cap] w (OutPost w l) := by
  have hn0 := h.n0
  have hn1 := h.n1
  have hb := h.hb
  have HI := hid h
  have HN := hid h.ln
  have HTK := hid (fun k (hk : k < n) => tgL_take l k (by rw [HN.out]; exact hk))
  have HTN := hid (show (tgL l).length = n by rw [tgL_length, HN.out])
  have HTD := hid (show (tgL l).take n = tgL l from List.take_of_length_le (by rw [HTN.out]; omega))
  have HEJ := hid (fun w' (h : landB l = false) (hb : Below w.heap.size w w') => out_bad (e := 11) (err_jump (by rw [HN.out]; omega) (by rw [HN.out]; omega) h) (by omega) hb)
  have HEF := hid (fun w' (h : landB l = true) (hf : fallB l = true) (hb : Below w.heap.size w w') => out_bad (e := 12) (err_fall (by rw [HN.out]; omega) (by rw [HN.out]; omega) h hf) (by omega) hb)
  have HED := hid (fun w' (h : landB l = true) (hf : fallB l = false) (hd : deadB l = true) (hb : Below w.heap.size w w') => out_bad (e := 13) (err_dead (by rw [HN.out]; omega) (by rw [HN.out]; omega) h hf hd) (by omega) hb)
  have HEG := hid (fun w' v (h : landB l = true) (hf : fallB l = false) (hd : deadB l = false) (ho : w'.ownsRow w.heap.size 3 1 v n (VI (tgL l))) (hb : Below w.heap.size w w') => out_good (err_good (by rw [HN.out]; omega) (by rw [HN.out]; omega) h hf hd) HN.out ho hb)
  have HLN := hid (fun k (hk : k < n) (hj : jmpB (at' l k).op = true) (ht : tgI l k < 0) => land_no (l := l) (by rw [HN.out]; exact hk) hj ht)
  have HLA := hid (fun (hk : LandTo l n) => land_all (l := l) (by rw [HN.out]; exact hk))
  have hnn : ((n : Int) == 0) = false := beq_eq_false_iff_ne.2 (by omega)
  have hn2 : ¬ ((256 : Int) < (n : Int)) := by omega
  clear h
  go_enter Try.func12, Try.ntmps12
  go_wp2_with fail
  go_loopw [4, 5] (fun v z wr => ∃ k : Nat, k ≤ n ∧ z = .int .i64 k ∧ Hid (LandTo l k) ∧ wr.ownsRow w.heap.size 3 1 v k (VI ((tgL l).take k)) ∧ Below w.heap.size w wr) (fun _ z _ => n - (intOf z).toNat)
  case atStart => exact ⟨0, Nat.zero_le _, rfl, hid (fun i hi => by omega), World.ownsRow_nil _ _ _ _, Below.refl _ _⟩
  case round =>
    obtain ⟨k, hk, rfl, HLT, hown, hbel⟩ := hrel
    by_cases hlt : k < n
    · obtain ⟨x, hx⟩ : ∃ x, l[k]? = some x := ⟨_, List.getElem?_eq_getElem (by rw [HN.out]; exact hlt)⟩
      obtain ⟨c0, c1, c2, c3, c4⟩ := (HI.out.hr.below hbel hb) k x hx
      have HJ := hid (fun w => rjumps_any x (HI.out.op k x hx) w)
      have HAT := hid (at_some hx)
      have HTG := hid (fun wr (hB : Below w.heap.size w wr) => rtarget_any b off n cap l k x wr HN.out (Nat.lt_of_lt_of_le hb hB.size) (HI.out.hr.below hB hb) (by omega) hlt hx (HI.out.off k x hx))
      have HTF := hid (fun h => tgI_find hx h)
      have HTS := hid (HTK.out k hlt)
      have hrg := tgI_range l k
      obtain ⟨j, hj⟩ : ∃ j, jmpB x.op = j := ⟨_, rfl⟩
      rw [hj] at HJ
      have HJJ := hid (show jmpB (at' l k).op = j by rw [HAT.out]; exact hj)
      have HJX := hid hj
      have HO := hid hown
      have HB := hid hbel
      have hk0 : (0 : Int) ≤ (k : Int) := by omega
      have hk1 : (k : Int) < (n : Int) := by omega
      clear hx hj hown hbel
      obtain ⟨xo, xd, xs, xf, xm⟩ := x
      unfold insnV at HJ
      simp only at c0 c1 c2 c3 c4 HJ HTG HTF HJX
      go_wp2_with fail
      refine (HJ.out _).mono ?_
      rintro e w2 ⟨rfl, hb2⟩
      have HB2 := hid (HB.out.trans (hb2.mono HB.out.size))
      have HO2 := hid (HO.out.kept (grown_of3 (r := none) hb2) (Classical.em _))
      clear hb2 c0 c1 c2 c3 c4
      cases j
      · have HT1 := hid (tgI_no HJJ.out)
        rw [HT1.out] at HTS
        have HN2 := hid (land_next HLT.out (fun h => by rw [HJJ.out] at h; cases h))
        clear hrg
        have hs2 := HB2.out.size
        go_wp2_with (at_builtin; (refine wpList_appI _ rfl _ _ rfl w.heap.size _ _ ((tgL l).take k) rfl (HO2.out.alloc _) _ _ (-1) rfl (new_cell rfl rfl) (by omega) (by simp; omega) ?_))
        intro v' w3 hown3 hgr3 _
        have HO3 := hid (show w3.ownsRow w.heap.size 3 1 v' (k + 1) (VI ((tgL l).take (k + 1))) from by rw [← HTS.out, VI_snoc]; exact hown3)
        have HB3 := hid ((HB2.out.alloc hs2 (.cells #[.int .i64 (-1)] 3)).grown hgr3 (by simp; omega) (fun q hq => ((HO2.out.alloc (.cells #[.int .i64 (-1)] 3)).lt q hq).1))
        clear hown3 hgr3 hs2
        go_wp2_with fail
        go_roundw
        case rel => exact ⟨k + 1, by omega, by go_num, HN2, HO3.out, HB3.out⟩
        case measure => simp [intOf]; omega
      · have HTT := hid (HTF.out HJX.out)
        have HTW := hid (HTG.out w2 HB2.out)
        rw [← HTT.out] at HTW
        obtain ⟨t, ht⟩ : ∃ t, tgI l k = t := ⟨_, rfl⟩
        have HTE := hid ht
        rw [ht] at HTW HTS hrg
        clear ht HTT
        go_wp2_with fail
        refine HTW.out.mono ?_
        rintro e w3 ⟨rfl, q, hw3⟩
        have hb3 : Below w2.heap.size w2 w3 := by rw [hw3]; exact ListB.below_drewN (Below.refl _ _) q
        have HB3 := hid (HB2.out.trans (hb3.mono HB2.out.size))
        have HO3 := hid (HO2.out.kept (grown_of3 (r := none) hb3) (Classical.em _))
        clear hw3 hb3
        by_cases hneg : t < 0
        · have HP := hid (HEJ.out w3 (HLN.out k hlt HJJ.out (by rw [HTE.out]; exact hneg)) HB3.out)
          go_wp2_with fail
          go_ret2
          exact HP.out
        · have HN2 := hid (land_next HLT.out (fun _ => by rw [HTE.out]; omega))
          have hs3 := HB3.out.size
          go_wp2_with (at_builtin; (refine wpList_appI _ rfl _ _ rfl w.heap.size _ _ ((tgL l).take k) rfl (HO3.out.alloc _) _ _ t rfl (new_cell rfl rfl) (by omega) (by simp; omega) ?_))
          intro v' w4 hown4 hgr4 _
          have HO4 := hid (show w4.ownsRow w.heap.size 3 1 v' (k + 1) (VI ((tgL l).take (k + 1))) from by rw [← HTS.out, VI_snoc]; exact hown4)
          have HB4 := hid ((HB3.out.alloc hs3 (.cells #[.int .i64 t] 3)).grown hgr4 (by simp; omega) (fun q hq => ((HO3.out.alloc (.cells #[.int .i64 t] 3)).lt q hq).1))
          clear hown4 hgr4 hs3
          go_wp2_with fail
          go_roundw
          case rel => exact ⟨k + 1, by omega, by go_num, HN2, HO4.out, HB4.out⟩
          case measure => simp [intOf]; omega
    · have hkn : k = n := by omega
      have HLB := hid (HLA.out (hkn ▸ HLT.out))
      have HO := hid (show wr.ownsRow w.heap.size 3 1 _ n (VI (tgL l)) from by
        have := hown
        rw [hkn, HTD.out] at this
        exact this)
      have HB := hid hbel
      have hge : n ≤ k := by omega
      obtain ⟨x, hx⟩ : ∃ x, l[n - 1]? = some x := ⟨_, List.getElem?_eq_getElem (by rw [HN.out]; omega)⟩
      obtain ⟨c0, _, _, _, _⟩ := (HI.out.hr.below hbel hb) (n - 1) x hx
      have HFB := hid (show fallB l = (x.op != 149 && x.op != 5) by unfold fallB; rw [HN.out, at_some hx])
      obtain ⟨g, tc, rfl⟩ := own_shape HO.out hn0
      have hl1 : (0 : Int) ≤ (n : Int) - 1 := by omega
      have hl2 : (n : Int) - 1 < (n : Int) := by omega
      have hl3 : ((n : Int) - 1).toNat = n - 1 := by omega
      generalize x.op = op at c0 HFB
      clear hkn hown hbel hx
      by_cases hop : op ≠ 149 ∧ op ≠ 5
      · have b1 : (op != 149) = true := by simpa using hop.1
        have b2 : (op != 5) = true := by simpa using hop.2
        have HP := hid (HEF.out wr HLB.out (by rw [HFB.out, b1, b2]; rfl) HB.out)
        clear hop
        go_wp2_with fail
        go_ret2
        exact HP.out
      · have hop2 : op = 149 ∨ op = 5 := by
          by_cases h1 : op = 149
          · exact Or.inl h1
          · by_cases h2 : op = 5
            · exact Or.inr h2
            · exact absurd ⟨h1, h2⟩ hop
        have HF := hid (show fallB l = false by rw [HFB.out]; rcases hop2 with rfl | rfl <;> rfl)
        have HR := hid (rreached_any b off n cap g 0 tc l wr HN.out (Nat.lt_of_lt_of_le hb HB.out.size) (HI.out.hr.below HB.out hb) (HO.out.lt g rfl).2 (fun i hi => by rw [Nat.zero_add, HO.out.cellAt i (by omega)]; exact VI_get _ _ (by rw [HTN.out]; exact hi)) (by omega) ⟨HLB.out, HF.out, by rw [HN.out]; exact hn0⟩)
        clear hop HFB
        rcases hop2 with rfl | rfl
        all_goals
          go_wp2_with fail
          refine HR.out.mono ?_
          rintro e w5 ⟨g2, rfl, hownS, hb5⟩
          have HB5 := hid (HB.out.trans (hb5.mono HB.out.size))
          have HO5 := hid (HO.out.kept (grown_of3 (r := none) hb5) (Classical.em _))
          have HCS := hid (cells_ownB hownS)
          have HLS := hid (own_lenB hownS)
          clear hownS hb5 c0
          go_wp2_with fail
          go_loopw [9] (fun z wr => ∃ i : Nat, i ≤ n ∧ z = .int .i64 i ∧ Hid (∀ j, j < i → (refR (nxt l) n).getD j false = true) ∧ wr = w5) (fun z _ => n - (intOf z).toNat)
          case atStart => exact ⟨0, Nat.zero_le _, rfl, hid (fun j hj => by omega), rfl⟩
          case round =>
            obtain ⟨i, hin, rfl, HE, rfl⟩ := hrel
            by_cases hlti : i < n
            · have cs := HCS.out i hlti
              rw [Nat.zero_add] at cs
              cases hbi : (refR (nxt l) n).getD i false
              · rw [hbi] at cs
                have HP := hid (HED.out wr HLB.out HF.out (show deadB l = true by unfold deadB; rw [HN.out, not_all _ i (by rw [HLS.out]; exact hlti) hbi]; rfl) HB5.out)
                clear hbi
                go_wp2_with fail
                go_ret2
                exact HP.out
              · rw [hbi] at cs
                have HE2 := hid (show ∀ j, j < i + 1 → (refR (nxt l) n).getD j false = true from fun j hj => by
                  by_cases e : j = i
                  · subst e; exact hbi
                  · exact HE.out j (by omega))
                clear hbi
                go_wp2_with fail
                go_roundw
                case rel => exact ⟨i + 1, by omega, by go_num, HE2, trivial⟩
                case measure => simp [intOf]; omega
            · have hin2 : i = n := by omega
              have HP := hid (HEG.out wr _ HLB.out HF.out (show deadB l = false by unfold deadB; rw [HN.out, all_take _ (fun j hj => HE.out j (by rw [hin2, ← HLS.out]; exact hj))]; rfl) HO5.out HB5.out)
              have hge2 : n ≤ i := by omega
              clear hin2
              go_wp2_with fail
              go_ret2
              exact HP.out
set_option maxRecDepth 100000 in
theorem rtargets_any (a : Option Addr) (n cap : Nat) (l : List In) (w : World) (h : ArgN w a n l) (hof : OffL l) (hop : ∀ (k : Nat) (x : In), l[k]? = some x → 0 ≤ x.op) (hm : n ≤ 9223372036854775807) :
    Calls Try.prog 12 #[.slice a n cap] w (OutPost w l) := by
  have hln := h.1
  by_cases h1 : 256 < n
  · have HP := hid (out_bad (w := w) (w' := w) (l := l) (err_many (by rw [hln]; exact h1)) (by omega) (Below.refl _ _))
    clear h hln
    go_enter Try.func12, Try.ntmps12
    go_wp2_with fail
    go_ret2
    exact HP.out
  by_cases h0 : n = 0
  · have HP := hid (out_bad (w := w) (w' := w) (l := l) (err_none (by rw [hln]; exact h0)) (by omega) (Below.refl _ _))
    clear h hln
    subst h0
    go_enter Try.func12, Try.ntmps12
    go_wp2_with fail
    go_ret2
    exact HP.out
  obtain ⟨b, off, rfl, hb, hr⟩ := h.2 (by omega)
  exact rtargets_few b off n cap l w ⟨hln, hb, hr, hof, hop, by omega, by omega⟩
end Go.Proofs.Ytfmdljnagkjhdaa.Flow

namespace Go.Proofs.Ytfmdljnagkjhdaa.Flow
open Go.RowKit Go.Proofs.Ytfmdljnagkjhdaa.Num Go.Proofs.Ytfmdljnagkjhdaa.ListB Go.Proofs.Ytfmdljnagkjhdaa.Insn Go.Proofs.Ytfmdljnagkjhdaa.Up
set_option maxRecDepth 100000 in
theorem flowTells_big (a : Option Addr) (n cap : Nat) (l : List In) (w : World) (h : ArgN w a n l) (hwf : WfL l) (hm : n ≤ 9223372036854775807) (hb : bigB l = true) :
    Calls Try.prog 3 #[.slice a n cap] w fun e w' => e = .returned (.bool true) ∧ Below w.heap.size w w' := by
  have HB := hid (big_any a n cap l w h hwf hm)
  rw [hb] at HB
  clear h hwf hb
  go_enter Try.func3, Try.ntmps3
  go_wp2_with fail
  refine HB.out.mono ?_
  rintro e w1 ⟨rfl, hb1⟩
  have HB1 := hid hb1
  clear hb1
  go_wp2_with fail
  refine (knownF_any _).mono ?_
  rintro e w2 ⟨rfl, hb2⟩
  have HB2 := hid (HB1.out.trans (hb2.mono HB1.out.size))
  clear hb2
  go_wp2_with fail
  go_ret
  exact ⟨rfl, HB2.out⟩
theorem row_capF {w : World} {base g n c : Nat} {xs : List Value} (h : w.ownsRow base 35 5 (.slice (some ⟨g, 0, none⟩) n c) n xs) : n ≤ c ∧ c ≤ 9223372036854775807 := by
  rcases h.2 with ⟨h', _⟩ | ⟨g', c', cur, h', _, _, hle, hm, _⟩
  · cases h'
  · cases h'; unfold maxLen at hm; exact ⟨hle, by omega⟩
theorem same_true (v1 v2 : Value) (zs : List Int) (w : World) (hn : zs.length ≤ 1000) (h1 : ArgI w v1 zs) (h2 : ArgI w v2 zs) :
    Calls Try.prog 14 #[v1, v2] w fun e w' => e = .returned (.bool true) ∧ Below w.heap.size w w' := by
  refine (sameI_any v1 v2 zs zs w (by omega) h1 h2).mono ?_
  rintro e w' ⟨rfl, m, rfl⟩
  exact ⟨by simp, ListB.below_drewN (Below.refl _ _) m⟩
theorem argI_ups (N : List Int) (v : Value) : Ups fun x => ArgI x v N := fun _ _ h hb => ArgI.up h hb
theorem outF_len (l : List In) : (outF l).length ≤ l.length := by
  unfold outF
  split
  · rw [tgL_length]; exact Nat.le_refl _
  · simp
theorem other_block {w1 w2 : World} {b1 b2 : Nat} {T1 T2 : TypeId} {s1 s2 n1 n2 : Nat} {v1 v2 : Value} {x1 x2 : List Value} (h1 : w1.ownsRow b1 T1 s1 v1 n1 x1) (h2 : w2.ownsRow b2 T2 s2 v2 n2 x2) (hb : w1.heap.size ≤ b2) : v1.ownBlock = none ∨ v1.ownBlock ≠ v2.ownBlock := by
  cases e : v1.ownBlock with
  | none => exact Or.inl rfl
  | some k =>
    right
    intro e2
    have := (h1.lt k e).2
    have := (h2.lt k e2.symm).1
    omega
theorem later_block {w1 w2 : World} {b1 b2 : Nat} {T1 T2 : TypeId} {s1 s2 n1 n2 : Nat} {v1 v2 : Value} {x1 x2 : List Value} (h1 : w1.ownsRow b1 T1 s1 v1 n1 x1) (h2 : w2.ownsRow b2 T2 s2 v2 n2 x2) (hb : w1.heap.size ≤ b2) : v2.ownBlock = none ∨ v2.ownBlock ≠ v1.ownBlock := by
  cases e : v2.ownBlock with
  | none => exact Or.inl rfl
  | some k =>
    right
    intro e2
    have := (h2.lt k e).1
    have := (h1.lt k e2.symm).2
    omega
set_option maxRecDepth 100000 in
set_option maxHeartbeats 8000000 in
theorem flowTells_few (a : Option Addr) (n cap : Nat) (l : List In) (w : World) (h : ArgN w a n l) (hwf : WfL l) (hm : n ≤ 9223372036854775807) (hb : bigB l = false) :
    Calls Try.prog 3 #[.slice a n cap] w fun e w' => e = .returned (.bool true) ∧ Below w.heap.size w w' := by
  obtain ⟨hle, hok⟩ := big_no hb
  have hln := h.1
  rw [hln] at hle
  have HA := hid h
  have HN := hid hln
  have HB := hid (big_any a n cap l w h hwf hm)
  rw [hb] at HB
  have HO := hid (ok_off hok)
  have HOP := hid (fun k x hx => (ok_op hok k x hx).1)
  have HTN := hid (show (tgL l).length = n by rw [tgL_length, hln])
  have HOL := hid (show (outF l).length ≤ 1000 by have := outF_len l; omega)
  have HPL := hid (show (plL l).length = n by rw [plL_length, hln])
  have HTG := hid (fun k (hk : k < n) => tgL_get l k (by rw [hln]; exact hk))
  obtain ⟨er, her⟩ : ∃ er, errF l = er := ⟨_, rfl⟩
  have HER := hid her
  clear h hwf hb hok hln her
  go_enter Try.func3, Try.ntmps3
  go_wp2_with fail
  refine HB.out.mono ?_
  rintro e w0 ⟨rfl, hb0⟩
  have HB0 := hid hb0
  have hs0 := hb0.size
  clear hb0
  go_wp2_with fail
  refine (lentN_any a n cap l w0 (HA.out.up HB0.out) (by omega)).mono ?_
  rintro e w1 ⟨g, c, rfl, hown1, hb1⟩
  have hcap := row_capF hown1
  have c1 : n + 5 ≤ c := hcap.1
  have c2 : c ≤ 9223372036854775807 := hcap.2
  have HO1 := hid hown1
  have HB1 := hid (HB0.out.trans (hb1.mono hs0))
  have hg1 := hown1.lt g rfl
  have hs1 := HB1.out.size
  clear hcap hown1 hb1
  go_wp2_with fail
  refine (targets_any (some ⟨g, 0, none⟩) n c l w1 ⟨HN.out, fun _ => ⟨g, 0, rfl, hg1.2, nrow_left (nrow_own HO1.out)⟩⟩ HO.out (by omega)).mono ?_
  rintro e w2 ⟨v1, rfl, hown2, hb2⟩
  rw [HER.out]
  have HO2 := hid hown2
  have HB2 := hid (HB1.out.trans (hb2.mono hs1))
  have HB12 := hid hb2
  have hs2 := HB2.out.size
  have hs12 := hb2.size
  clear hown2 hb2
  go_wp2_with fail
  refine (rtargets_any a n cap l w2 (HA.out.up HB2.out) HO.out HOP.out hm).mono ?_
  rintro e w3 ⟨v2, rfl, hown3, hb3⟩
  rw [HER.out]
  have HO3 := hid hown3
  have HB3 := hid (HB2.out.trans (hb3.mono hs2))
  have HB13 := hid (HB12.out.trans (hb3.mono hs12))
  have HO23 := hid (HO2.out.kept (grown_of3 (r := none) hb3) (Classical.em _))
  have hs3 := HB3.out.size
  have hs23 := hb3.size
  clear hown3 hb3
  go_wp2_with fail
  refine (places_any (some ⟨g, 0, none⟩) n c l w3 ⟨HN.out, fun _ => ⟨g, 0, rfl, by omega, (nrow_left (nrow_own HO1.out)).below HB13.out hg1.2⟩⟩ (by omega)).mono ?_
  rintro e w4 ⟨v3, rfl, hown4, hb4⟩
  have HO4 := hid hown4
  have HB4 := hid (HB3.out.trans (hb4.mono hs3))
  have HB14 := hid (HB13.out.trans (hb4.mono (by omega)))
  have HO24 := hid (HO23.out.kept (grown_of3 (r := none) hb4) (Classical.em _))
  have HO34 := hid (HO3.out.kept (grown_of3 (r := none) hb4) (Classical.em _))
  have hs4 := HB4.out.size
  have hs34 := hb4.size
  clear hown4 hb4
  have hee : (er != er) = false := by simp
  go_wp2_with fail
  refine (same_true v1 v2 (outF l) w4 HOL.out (own_argI HO24.out) (own_argI HO34.out)).mono ?_
  rintro e w5 ⟨rfl, hb5⟩
  have HB5 := hid (HB4.out.trans (hb5.mono hs4))
  have HB15 := hid (HB14.out.trans (hb5.mono (by omega)))
  have HO25 := hid (HO24.out.kept (grown_of3 (r := none) hb5) (Classical.em _))
  have HO35 := hid (HO34.out.kept (grown_of3 (r := none) hb5) (Classical.em _))
  have HO45 := hid (HO4.out.kept (grown_of3 (r := none) hb5) (Classical.em _))
  have hs5 := HB5.out.size
  have hs45 := hb5.size
  clear hb5
  go_wp2_with fail
  refine (rplaces_any a n cap l w5 (HA.out.up HB5.out) (by omega)).mono ?_
  rintro e w6 ⟨v4, rfl, hown6, hb6⟩
  have HB6 := hid (HB5.out.trans (hb6.mono hs5))
  have HB16 := hid (HB15.out.trans (hb6.mono (by omega)))
  have HO26 := hid (HO25.out.kept (grown_of3 (r := none) hb6) (Classical.em _))
  have HO36 := hid (HO35.out.kept (grown_of3 (r := none) hb6) (Classical.em _))
  have HO46 := hid (HO45.out.kept (grown_of3 (r := none) hb6) (Classical.em _))
  have HO6 := hid hown6
  have hs6 := HB6.out.size
  have hs56 := hb6.size
  clear hown6 hb6
  go_wp2_with fail
  refine (same_true v3 v4 (plL l) w6 (by rw [HPL.out]; omega) (own_argI HO46.out) (own_argI HO6.out)).mono ?_
  rintro e w7 ⟨rfl, hb7⟩
  have HB7 := hid (HB6.out.trans (hb7.mono hs6))
  have HB17 := hid (HB16.out.trans (hb7.mono (by omega)))
  have HO27 := hid (HO26.out.kept (grown_of3 (r := none) hb7) (Classical.em _))
  have HO37 := hid (HO36.out.kept (grown_of3 (r := none) hb7) (Classical.em _))
  have HO47 := hid (HO46.out.kept (grown_of3 (r := none) hb7) (Classical.em _))
  have hs7 := HB7.out.size
  have hs67 := hb7.size
  clear hb7
  go_wp2_with fail
  refine (keptN_any a g c n cap l w7 (HA.out.up HB7.out) (by omega) c1 (by omega) ((nrow_own HO1.out).below HB17.out hg1.2)).mono ?_
  rintro e w8 ⟨rfl, hb8⟩
  have HB8 := hid (HB7.out.trans (hb8.mono hs7))
  have HO28 := hid (HO27.out.kept (grown_of3 (r := none) hb8) (Classical.em _))
  have HO38 := hid (HO37.out.kept (grown_of3 (r := none) hb8) (Classical.em _))
  have HO48 := hid (HO47.out.kept (grown_of3 (r := none) hb8) (Classical.em _))
  have hs8 := HB8.out.size
  have hs78 := hb8.size
  clear hb8
  go_wp2_with fail
  go_loopw [9] (fun z wr => ∃ k : Nat, k ≤ n ∧ z = .int .i64 k ∧ Below w8.heap.size w8 wr) (fun z _ => n - (intOf z).toNat)
  case atStart => exact ⟨0, Nat.zero_le _, rfl, Below.refl _ _⟩
  case round =>
    obtain ⟨k, hk, rfl, hbel⟩ := hrel
    by_cases hlt : k < n
    · obtain ⟨x, hx⟩ : ∃ x, l[k]? = some x := ⟨_, List.getElem?_eq_getElem (by rw [HN.out]; exact hlt)⟩
      have hbw : Below w.heap.size w wr := HB8.out.trans (hbel.mono hs8)
      have haw := HA.out.up hbw
      obtain ⟨b, off, rfl, hbw2, hrw⟩ := haw.2 (by omega)
      have FX := hid (fun x' (hx' : Below wr.heap.size wr x') => (hrw.below hx' hbw2) k x hx)
      have HJ := hid (fun w => jumps_any x w)
      have HRJ := hid (fun w => rjumps_any x (HOP.out k x hx) w)
      have hk0 : (0 : Int) ≤ (k : Int) := by omega
      have hk1 : (k : Int) < (n : Int) := by omega
      have HBL := hid hbel
      by_cases he : er = 0
      · subst he
        have hO := outF_ok HER.out
        have ha2 := (own_argI HO28.out).up hbel
        have ha3 := (own_argI HO38.out).up hbel
        rw [hO] at ha2 ha3
        have HU2 := hid ha2
        have HU3 := hid ha3
        obtain ⟨ta, tc, hv1, htr⟩ := ha2
        obtain ⟨ua, uc, hv2, hur⟩ := ha3
        rw [HTN.out] at htr hur hv1 hv2
        obtain ⟨tb, toff, rfl, htb, htc⟩ := htr (by omega)
        obtain ⟨ub, uoff, rfl, hub, huc⟩ := hur (by omega)
        have hL := (landB_iff l).1 (errF_ok HER.out).1.land k (by rw [HN.out]; exact hlt)
        obtain ⟨N, hN⟩ : ∃ N, nxI x.op k (tgI l k) = N := ⟨_, rfl⟩
        have hN2 : N.length ≤ 2 := by rw [← hN]; exact (nxI_len _ _ _).1
        have HNX := hid (fun x' (hx' : Below wr.heap.size wr x') => (show Calls Try.prog 19 #[.slice (some ⟨b, off, none⟩) n cap, .slice (some ⟨tb, toff, none⟩) n tc, .int .i64 (k : Nat)] x' fun e w' => ∃ v, e = .returned v ∧ ArgI w' v N ∧ Below x'.heap.size x' w' from by
          have := next_any (some ⟨b, off, none⟩) n cap l (.slice (some ⟨tb, toff, none⟩) n tc) (tgL l) k x' (haw.up hx') (by rw [← hv1]; exact HU2.out.up hx') (by omega) hlt (by rw [HTN.out]; exact hlt) (by rw [HTN.out]; omega)
          rw [HTG.out k hlt, at_some hx, hN] at this
          refine this.mono ?_
          rintro e w' ⟨v, rfl, ho, hb⟩
          exact ⟨v, rfl, own_argI ho, hb⟩))
        have HRX := hid (fun x' (hx' : Below wr.heap.size wr x') => (show Calls Try.prog 20 #[.slice (some ⟨b, off, none⟩) n cap, .slice (some ⟨ub, uoff, none⟩) n uc, .int .i64 (k : Nat)] x' fun e w' => ∃ v, e = .returned v ∧ ArgI w' v N ∧ Below x'.heap.size x' w' from by
          have := rnext_any b off n cap ub uoff n uc l k x (tgI l k) x' ⟨hx, hlt, hlt, ((hrw.below hx' hbw2) k x hx).1, Nat.lt_of_lt_of_le hbw2 hx'.size, by rw [← HTG.out k hlt]; exact (hx'.cell (show ub < _ from hub)).trans (huc k hlt), Nat.lt_of_lt_of_le hub hx'.size,
            fun h => hL (by rw [at_some hx]; exact h), fun h => tgI_no (by rw [at_some hx]; exact h)⟩ (by omega)
          rw [hN] at this
          refine this.mono ?_
          rintro e w' ⟨v, rfl, ho, hb⟩
          exact ⟨v, rfl, own_argI ho, hb⟩))
        have HSM := hid (fun x' va vb (h1 : ArgI x' va N) (h2 : ArgI x' vb N) => same_true va vb N x' (by omega) h1 h2)
        rw [hv1, hv2]
        generalize jmpB x.op = j at HJ HRJ
        clear hx hbw haw hrw htr hur htc huc hL hN hN2 HU2 HU3 hv1 hv2 hO hbel
        obtain ⟨xo, xd, xs, xf, xm⟩ := x
        unfold insnV at HJ HRJ
        simp only at HJ HRJ FX
        cases j
        all_goals
          go_upto_region 12 with fail
          refine up_begin (fun x => Below wr.heap.size wr x) 27 rfl (by kernel_rfl) ((Below.refl _ _).drew) ?_
          refine take_val (i := 0) (ups_below (Nat.le_refl _)) rfl rfl (by kernel_rfl) (fun _ _ _ h => h) (by rfl) (by intro x hx; go_simp; (first | done | exact rfl)) ?_
          simp only [List.set_cons_succ, List.set_cons_zero]
          refine take_val (i := 1) (ups_below (Nat.le_refl _)) rfl rfl (by kernel_rfl) (fun _ _ _ h => h) (by rfl) (by intro x hx; go_simp; (first | done | exact rfl)) ?_
          simp only [List.set_cons_succ, List.set_cons_zero]
          refine take_val (i := 2) (ups_below (Nat.le_refl _)) rfl rfl (by kernel_rfl) (fun _ _ _ h => h) (by rfl) (by intro x hx; go_simp; (first | done | exact rfl)) ?_
          simp only [List.set_cons_succ, List.set_cons_zero]
          refine take_val (i := 3) (ups_below (Nat.le_refl _)) rfl rfl (by kernel_rfl) (fun _ _ _ h => h) (by rfl) (by intro x hx; obtain ⟨f0, f1, f2, f3, f4⟩ := FX.out x hx; go_simp; (first | done | exact rfl)) ?_
          simp only [List.set_cons_succ, List.set_cons_zero]
          refine take_call (i := 4) (f := 17) (args := #[.agg #[.int .i64 xo, .int .i64 xd, .int .i64 xs, .int .i64 xf, .int .i64 xm]]) (ups_below (Nat.le_refl _)) rfl rfl (by kernel_rfl) (fun _ _ _ h => h) (by rfl) (fun x hx => by kernel_rfl) (by intro x hx; exact HJ.out _) ?_
          simp only [List.set_cons_succ, List.set_cons_zero]
          refine take_val (i := 5) (ups_below (Nat.le_refl _)) rfl rfl (by kernel_rfl) (fun _ _ _ h => h) (by rfl) (by intro x hx; go_simp; (first | done | exact rfl)) ?_
          simp only [List.set_cons_succ, List.set_cons_zero]
          refine take_val (i := 6) (ups_below (Nat.le_refl _)) rfl rfl (by kernel_rfl) (fun _ _ _ h => h) (by rfl) (by intro x hx; go_simp; (first | done | exact rfl)) ?_
          simp only [List.set_cons_succ, List.set_cons_zero]
          refine take_val (i := 7) (ups_below (Nat.le_refl _)) rfl rfl (by kernel_rfl) (fun _ _ _ h => h) (by rfl) (by intro x hx; go_simp; (first | done | exact rfl)) ?_
          simp only [List.set_cons_succ, List.set_cons_zero]
          refine take_val (i := 8) (ups_below (Nat.le_refl _)) rfl rfl (by kernel_rfl) (fun _ _ _ h => h) (by rfl) (by intro x hx; obtain ⟨f0, f1, f2, f3, f4⟩ := FX.out x hx; go_simp; (first | done | exact rfl)) ?_
          simp only [List.set_cons_succ, List.set_cons_zero]
          refine take_call (i := 9) (f := 18) (args := #[.agg #[.int .i64 xo, .int .i64 xd, .int .i64 xs, .int .i64 xf, .int .i64 xm]]) (ups_below (Nat.le_refl _)) rfl rfl (by kernel_rfl) (fun _ _ _ h => h) (by rfl) (fun x hx => by kernel_rfl) (by intro x hx; exact HRJ.out _) ?_
          simp only [List.set_cons_succ, List.set_cons_zero]
          refine take_val (i := 10) (ups_below (Nat.le_refl _)) rfl rfl (by kernel_rfl) (fun _ _ _ h => h) (by rfl) (by intro x hx; go_simp; (first | done | exact rfl)) ?_
          simp only [List.set_cons_succ, List.set_cons_zero]
          refine take_val (i := 11) (ups_below (Nat.le_refl _)) rfl rfl (by kernel_rfl) (fun _ _ _ h => h) (by rfl) (by intro x hx; go_simp; (first | done | exact rfl)) ?_
          simp only [List.set_cons_succ, List.set_cons_zero]
          refine take_val (i := 12) (ups_below (Nat.le_refl _)) rfl rfl (by kernel_rfl) (fun _ _ _ h => h) (by rfl) (by intro x hx; go_simp; (first | done | exact rfl)) ?_
          simp only [List.set_cons_succ, List.set_cons_zero]
          refine take_val (i := 13) (ups_below (Nat.le_refl _)) rfl rfl (by kernel_rfl) (fun _ _ _ h => h) (by rfl) (by intro x hx; go_simp; (first | done | exact rfl)) ?_
          simp only [List.set_cons_succ, List.set_cons_zero]
          refine take_val (i := 14) (ups_below (Nat.le_refl _)) rfl rfl (by kernel_rfl) (fun _ _ _ h => h) (by rfl) (by intro x hx; go_simp; (first | done | exact rfl)) ?_
          simp only [List.set_cons_succ, List.set_cons_zero]
          refine take_val (i := 15) (ups_below (Nat.le_refl _)) rfl rfl (by kernel_rfl) (fun _ _ _ h => h) (by rfl) (by intro x hx; go_simp; (first | done | exact rfl)) ?_
          simp only [List.set_cons_succ, List.set_cons_zero]
          refine take_val (i := 16) (ups_below (Nat.le_refl _)) rfl rfl (by kernel_rfl) (fun _ _ _ h => h) (by rfl) (by intro x hx; go_simp; (first | done | exact rfl)) ?_
          simp only [List.set_cons_succ, List.set_cons_zero]
          refine take_val (i := 17) (ups_below (Nat.le_refl _)) rfl rfl (by kernel_rfl) (fun _ _ _ h => h) (by rfl) (by intro x hx; go_simp; (first | done | exact rfl)) ?_
          simp only [List.set_cons_succ, List.set_cons_zero]
          refine take_val (i := 19) (ups_below (Nat.le_refl _)) rfl rfl (by kernel_rfl) (fun _ _ _ h => h) (by rfl) (by intro x hx; go_simp; (first | done | exact rfl)) ?_
          simp only [List.set_cons_succ, List.set_cons_zero]
          refine take_val (i := 20) (ups_below (Nat.le_refl _)) rfl rfl (by kernel_rfl) (fun _ _ _ h => h) (by rfl) (by intro x hx; go_simp; (first | done | exact rfl)) ?_
          simp only [List.set_cons_succ, List.set_cons_zero]
          refine take_val (i := 21) (ups_below (Nat.le_refl _)) rfl rfl (by kernel_rfl) (fun _ _ _ h => h) (by rfl) (by intro x hx; go_simp; (first | done | exact rfl)) ?_
          simp only [List.set_cons_succ, List.set_cons_zero]
          refine Up.take_one (i := 18) (by kernel_rfl) (step_call_as (f := 19) (args := #[.slice (some ⟨b, off, none⟩) n cap, .slice (some ⟨tb, toff, none⟩) n tc, .int .i64 (k : Nat)]) (ups_below (Nat.le_refl _)) rfl rfl (by rfl) (fun v x => ArgI x v N) (argI_ups N) (fun x hx => by kernel_rfl) (by intro x hx; exact HNX.out x hx) (fun va => ?_))
          simp only [List.set_cons_succ, List.set_cons_zero]
          refine Up.take_one (i := 22) (by kernel_rfl) (step_call_as (f := 20) (args := #[.slice (some ⟨b, off, none⟩) n cap, .slice (some ⟨ub, uoff, none⟩) n uc, .int .i64 (k : Nat)]) (ups_and (ups_below (Nat.le_refl _)) ((argI_ups N) va)) rfl rfl (by rfl) (fun v x => ArgI x v N) (argI_ups N) (fun x hx => by kernel_rfl) (by intro x hx; obtain ⟨hx, hqa⟩ := hx; exact HRX.out x hx) (fun vb => ?_))
          simp only [List.set_cons_succ, List.set_cons_zero]
          refine take_call (i := 23) (f := 14) (args := #[va, vb]) (ups_and (ups_and (ups_below (Nat.le_refl _)) ((argI_ups N) va)) ((argI_ups N) vb)) rfl rfl (by kernel_rfl) (fun _ _ _ h => h) (by rfl) (fun x hx => by kernel_rfl) (by intro x hx; obtain ⟨hx, hqb⟩ := hx; obtain ⟨hx, hqa⟩ := hx; exact HSM.out x va vb hqa hqb) ?_
          simp only [List.set_cons_succ, List.set_cons_zero]
          refine take_val (i := 24) (ups_and (ups_and (ups_below (Nat.le_refl _)) ((argI_ups N) va)) ((argI_ups N) vb)) rfl rfl (by kernel_rfl) (fun _ _ _ h => h) (by rfl) (by intro x hx; go_simp; (first | done | exact rfl)) ?_
          simp only [List.set_cons_succ, List.set_cons_zero]
          refine take_val (i := 25) (ups_and (ups_and (ups_below (Nat.le_refl _)) ((argI_ups N) va)) ((argI_ups N) vb)) rfl rfl (by kernel_rfl) (fun _ _ _ h => h) (by rfl) (by intro x hx; go_simp; (first | done | exact rfl)) ?_
          simp only [List.set_cons_succ, List.set_cons_zero]
          refine take_val (i := 26) (ups_and (ups_and (ups_below (Nat.le_refl _)) ((argI_ups N) va)) ((argI_ups N) vb)) rfl rfl (by kernel_rfl) (fun _ _ _ h => h) (by rfl) (by intro x hx; go_simp; (first | done | exact rfl)) ?_
          simp only [List.set_cons_succ, List.set_cons_zero]
          refine take_done (by kernel_rfl) ?_ _
          intro x hx
          have HBX := hid hx.1.1
          clear hx
          go_wp2_with fail
          go_roundw
          case rel => exact ⟨k + 1, by omega, by go_num, HBL.out.trans (HBX.out.mono HBL.out.size)⟩
          case measure => simp [intOf]; omega
      · have hb0 : (er == 0) = false := by simpa using he
        generalize jmpB x.op = j at HJ HRJ
        clear hx hbw haw hrw hbel he
        obtain ⟨xo, xd, xs, xf, xm⟩ := x
        unfold insnV at HJ HRJ
        simp only at HJ HRJ FX
        cases j
        all_goals
          go_upto_region 12 with fail
          refine up_begin (fun x => Below wr.heap.size wr x) 27 rfl (by kernel_rfl) ((Below.refl _ _).drew) ?_
          refine take_val (i := 0) (ups_below (Nat.le_refl _)) rfl rfl (by kernel_rfl) (fun _ _ _ h => h) (by rfl) (by intro x hx; go_simp; (first | done | exact rfl)) ?_
          simp only [List.set_cons_succ, List.set_cons_zero]
          refine take_val (i := 1) (ups_below (Nat.le_refl _)) rfl rfl (by kernel_rfl) (fun _ _ _ h => h) (by rfl) (by intro x hx; go_simp; (first | done | exact rfl)) ?_
          simp only [List.set_cons_succ, List.set_cons_zero]
          refine take_val (i := 2) (ups_below (Nat.le_refl _)) rfl rfl (by kernel_rfl) (fun _ _ _ h => h) (by rfl) (by intro x hx; go_simp; (first | done | exact rfl)) ?_
          simp only [List.set_cons_succ, List.set_cons_zero]
          refine take_val (i := 3) (ups_below (Nat.le_refl _)) rfl rfl (by kernel_rfl) (fun _ _ _ h => h) (by rfl) (by intro x hx; obtain ⟨f0, f1, f2, f3, f4⟩ := FX.out x hx; go_simp; (first | done | exact rfl)) ?_
          simp only [List.set_cons_succ, List.set_cons_zero]
          refine take_call (i := 4) (f := 17) (args := #[.agg #[.int .i64 xo, .int .i64 xd, .int .i64 xs, .int .i64 xf, .int .i64 xm]]) (ups_below (Nat.le_refl _)) rfl rfl (by kernel_rfl) (fun _ _ _ h => h) (by rfl) (fun x hx => by kernel_rfl) (by intro x hx; exact HJ.out _) ?_
          simp only [List.set_cons_succ, List.set_cons_zero]
          refine take_val (i := 5) (ups_below (Nat.le_refl _)) rfl rfl (by kernel_rfl) (fun _ _ _ h => h) (by rfl) (by intro x hx; go_simp; (first | done | exact rfl)) ?_
          simp only [List.set_cons_succ, List.set_cons_zero]
          refine take_val (i := 6) (ups_below (Nat.le_refl _)) rfl rfl (by kernel_rfl) (fun _ _ _ h => h) (by rfl) (by intro x hx; go_simp; (first | done | exact rfl)) ?_
          simp only [List.set_cons_succ, List.set_cons_zero]
          refine take_val (i := 7) (ups_below (Nat.le_refl _)) rfl rfl (by kernel_rfl) (fun _ _ _ h => h) (by rfl) (by intro x hx; go_simp; (first | done | exact rfl)) ?_
          simp only [List.set_cons_succ, List.set_cons_zero]
          refine take_val (i := 8) (ups_below (Nat.le_refl _)) rfl rfl (by kernel_rfl) (fun _ _ _ h => h) (by rfl) (by intro x hx; obtain ⟨f0, f1, f2, f3, f4⟩ := FX.out x hx; go_simp; (first | done | exact rfl)) ?_
          simp only [List.set_cons_succ, List.set_cons_zero]
          refine take_call (i := 9) (f := 18) (args := #[.agg #[.int .i64 xo, .int .i64 xd, .int .i64 xs, .int .i64 xf, .int .i64 xm]]) (ups_below (Nat.le_refl _)) rfl rfl (by kernel_rfl) (fun _ _ _ h => h) (by rfl) (fun x hx => by kernel_rfl) (by intro x hx; exact HRJ.out _) ?_
          simp only [List.set_cons_succ, List.set_cons_zero]
          refine take_val (i := 10) (ups_below (Nat.le_refl _)) rfl rfl (by kernel_rfl) (fun _ _ _ h => h) (by rfl) (by intro x hx; go_simp; (first | done | exact rfl)) ?_
          simp only [List.set_cons_succ, List.set_cons_zero]
          refine take_val (i := 11) (ups_below (Nat.le_refl _)) rfl rfl (by kernel_rfl) (fun _ _ _ h => h) (by rfl) (by intro x hx; go_simp; (first | done | exact rfl)) ?_
          simp only [List.set_cons_succ, List.set_cons_zero]
          refine take_val (i := 12) (ups_below (Nat.le_refl _)) rfl rfl (by kernel_rfl) (fun _ _ _ h => h) (by rfl) (by intro x hx; go_simp; (first | done | exact rfl)) ?_
          simp only [List.set_cons_succ, List.set_cons_zero]
          refine take_val (i := 13) (ups_below (Nat.le_refl _)) rfl rfl (by kernel_rfl) (fun _ _ _ h => h) (by rfl) (by intro x hx; go_simp; (first | done | exact rfl)) ?_
          simp only [List.set_cons_succ, List.set_cons_zero]
          refine take_val (i := 14) (ups_below (Nat.le_refl _)) rfl rfl (by kernel_rfl) (fun _ _ _ h => h) (by rfl) (by intro x hx; go_simp; (first | done | exact rfl)) ?_
          simp only [List.set_cons_succ, List.set_cons_zero]
          refine take_no (i := 15) (ups_below (Nat.le_refl _)) rfl rfl (by kernel_rfl) (fun _ _ _ h => h) (by kernel_rfl) ?_
          simp only [List.set_cons_succ, List.set_cons_zero]
          refine take_no (i := 16) (ups_below (Nat.le_refl _)) rfl rfl (by kernel_rfl) (fun _ _ _ h => h) (by kernel_rfl) ?_
          simp only [List.set_cons_succ, List.set_cons_zero]
          refine take_no (i := 17) (ups_below (Nat.le_refl _)) rfl rfl (by kernel_rfl) (fun _ _ _ h => h) (by kernel_rfl) ?_
          simp only [List.set_cons_succ, List.set_cons_zero]
          refine take_no (i := 18) (ups_below (Nat.le_refl _)) rfl rfl (by kernel_rfl) (fun _ _ _ h => h) (by kernel_rfl) ?_
          simp only [List.set_cons_succ, List.set_cons_zero]
          refine take_no (i := 19) (ups_below (Nat.le_refl _)) rfl rfl (by kernel_rfl) (fun _ _ _ h => h) (by kernel_rfl) ?_
          simp only [List.set_cons_succ, List.set_cons_zero]
          refine take_no (i := 20) (ups_below (Nat.le_refl _)) rfl rfl (by kernel_rfl) (fun _ _ _ h => h) (by kernel_rfl) ?_
          simp only [List.set_cons_succ, List.set_cons_zero]
          refine take_no (i := 21) (ups_below (Nat.le_refl _)) rfl rfl (by kernel_rfl) (fun _ _ _ h => h) (by kernel_rfl) ?_
          simp only [List.set_cons_succ, List.set_cons_zero]
          refine take_no (i := 22) (ups_below (Nat.le_refl _)) rfl rfl (by kernel_rfl) (fun _ _ _ h => h) (by kernel_rfl) ?_
          simp only [List.set_cons_succ, List.set_cons_zero]
          refine take_no (i := 23) (ups_below (Nat.le_refl _)) rfl rfl (by kernel_rfl) (fun _ _ _ h => h) (by kernel_rfl) ?_
          simp only [List.set_cons_succ, List.set_cons_zero]
          refine take_no (i := 24) (ups_below (Nat.le_refl _)) rfl rfl (by kernel_rfl) (fun _ _ _ h => h) (by kernel_rfl) ?_
          simp only [List.set_cons_succ, List.set_cons_zero]
          refine take_val (i := 25) (ups_below (Nat.le_refl _)) rfl rfl (by kernel_rfl) (fun _ _ _ h => h) (by rfl) (by intro x hx; go_simp; (first | done | exact rfl)) ?_
          simp only [List.set_cons_succ, List.set_cons_zero]
          refine take_val (i := 26) (ups_below (Nat.le_refl _)) rfl rfl (by kernel_rfl) (fun _ _ _ h => h) (by rfl) (by intro x hx; go_simp; (first | done | exact rfl)) ?_
          simp only [List.set_cons_succ, List.set_cons_zero]
          refine take_done (by kernel_rfl) ?_ _
          intro x hx
          have HBX := hid hx
          clear hx
          go_wp2_with fail
          go_roundw
          case rel => exact ⟨k + 1, by omega, by go_num, HBL.out.trans (HBX.out.mono HBL.out.size)⟩
          case measure => simp [intOf]; omega
    · have hge : n ≤ k := by omega
      have HBL := hid hbel
      have HBW := hid (HB8.out.trans (hbel.mono hs8))
      have HO29 := hid (HO28.out.kept (grown_of3 (r := none) hbel) (Classical.em _))
      have HO39 := hid (HO38.out.kept (grown_of3 (r := none) hbel) (Classical.em _))
      have HO49 := hid (HO48.out.kept (grown_of3 (r := none) hbel) (Classical.em _))
      have hs9 := HBW.out.size
      clear hbel
      go_wp2_with fail
      refine (spoilI_any _ (outF l).length v1 _ wr (by have := HOL.out; omega) HO29.out).mono ?_
      rintro e w10 ⟨rfl, hg10⟩
      have HO3a := hid (HO39.out.kept hg10 (later_block HO2.out HO3.out (Nat.le_refl _)))
      have HO4a := hid (HO49.out.kept hg10 (later_block HO2.out HO4.out hs23))
      have HB10 := hid (HBW.out.grown hg10 hs9 (fun q hq => Nat.le_trans hs1 (HO2.out.lt q hq).1))
      have hs10 := HB10.out.size
      clear hg10
      go_wp2_with fail
      refine (spoilI_any _ (plL l).length v3 _ w10 (by rw [HPL.out]; omega) HO4a.out).mono ?_
      rintro e w11 ⟨rfl, hg11⟩
      have HO3b := hid (HO3a.out.kept hg11 (other_block HO3.out HO4.out (Nat.le_refl _)))
      have HB11 := hid (HB10.out.grown hg11 hs10 (fun q hq => Nat.le_trans hs3 (HO4.out.lt q hq).1))
      have hs11 := HB11.out.size
      clear hg11
      go_wp2_with fail
      refine (targets_any a n cap l w11 (HA.out.up HB11.out) HO.out hm).mono ?_
      rintro e w12 ⟨v5, rfl, hown12, hb12⟩
      have HO5 := hid hown12
      have HO3c := hid (HO3b.out.kept (grown_of3 (r := none) hb12) (Classical.em _))
      have HB12' := hid (HB11.out.trans (hb12.mono hs11))
      clear hown12 hb12
      go_wp2_with fail
      refine (same_true v5 v2 (outF l) w12 HOL.out (own_argI HO5.out) (own_argI HO3c.out)).mono ?_
      rintro e w13 ⟨rfl, hb13⟩
      have HB13' := hid (HB12'.out.trans (hb13.mono HB12'.out.size))
      clear hb13
      go_wp2_with fail
      refine (knownF_any _).mono ?_
      rintro e w14 ⟨rfl, hb14⟩
      have HB14' := hid (HB13'.out.trans (hb14.mono HB13'.out.size))
      clear hb14
      go_wp2_with fail
      go_ret
      exact ⟨rfl, HB14'.out⟩
theorem flowTells (a : Option Addr) (n cap : Nat) (l : List In) (w : World) (h : ArgN w a n l) (hwf : WfL l) (hc : n ≤ cap) (hm : cap ≤ 9223372036854775807) :
    Calls Try.prog 3 #[.slice a n cap] w fun e w' => e = .returned (.bool true) ∧ Below w.heap.size w w' := by
  cases hb : bigB l
  · exact flowTells_few a n cap l w h hwf (by omega) hb
  · exact flowTells_big a n cap l w h hwf (by omega) hb
end Go.Proofs.Ytfmdljnagkjhdaa.Flow

namespace Go.Proofs.Ytfmdljnagkjhdaa.flowTells
open Go.ChangeShapes Go.WideShapes Go.ChangeAt Go.RowKit Go.Proofs.Ytfmdljnagkjhdaa.Flow Go.Proofs.Ytfmdljnagkjhdaa.Insn
open Go.ChangeMaps (open_string shut_string)
set_option linter.unusedVariables false

theorem own : ownKnob Try.prog.godebug = none := by kernel_rfl
theorem laidOut : laidOutB Try.prog = true := by kernel_rfl

set_option maxRecDepth 100000 in
theorem lifted (os : Os) (started : os.Started) (H : Type) (enc : TypeId × Value → H) :
    ReturnsInHanded {} Try.checked os 3 .any (Rows.flowTellsSpec.pre6 enc Try.prog Try.f3 Rows.flowTellsRow.domain false) (Rows.flowTellsSpec.post enc Try.prog Try.f3 false true false false) := by
  refine returnsInHanded_of_change_sized (C := Try.checked) own started (by kernel_rfl) Try.func3
    (ChangeSpec.witness6 (enc := enc) (C := Try.checked) false ⟨#[], #[.slice none 0 0], []⟩ 8 (by kernel_rfl) (by kernel_rfl) (by kernel_rfl) (by kernel_rfl)) ?_
  intro W base args ds gs before hval0 hW hcnd hsz0 _
  have hsz : (DataW.weightsEach Try.prog (Try.f3.params.toList ++ Rows.flowTellsSpec.plain.varTypes Try.prog) (ds ++ gs)).all (· ≤ reachBytes) = true := hsz0
  clear hsz0
  have hval : ∀ (j : Nat) t v, Try.f3.params[j]? = some t → args[j]? = some v → Value.okWide Try.prog W .any base t v := hval0
  have hW' := hW
  obtain ⟨p, q, hA0, hV, rfl, hfz, hnd⟩ := hW
  have hA : DataW.TrodAll enc Try.prog W 0 (fun _ => true) true Try.f3.params.toList args.toList ds p := hA0
  rw [Try.params3] at hA hval hsz
  obtain ⟨v0, vs0, d0, ds0, p0, q0, hargs, rfl, rfl, h0, r0⟩ := trodAll_cons hA
  obtain ⟨rfl, rfl, rfl⟩ := trodAll_nil r0
  obtain rfl : args = #[v0] := by cases args; simp_all
  obtain ⟨rfl, rfl⟩ := trodVars_none hV
  have k0 := h0
  have lt0 : ∀ x ∈ p0, x.block < W.heap.size := by obtain ⟨m, hm⟩ := k0; exact DataW.trod_lt m _ _ _ hm
  obtain ⟨a0, len0, cap0, rfl⟩ := okWide_slice Try.underlying22 (hval 0 22 v0 rfl rfl)
  obtain ⟨l0, g0, w0, lc0, cm0⟩ := (let ⟨fuel, hf⟩ := h0; open_insns hf)
  clear hA0 hval0
  refine (flowTells a0 len0 cap0 l0 W g0 w0 lc0 cm0).mono fun e W' ⟨he, bel⟩ => ?_
  subst he
  exact ⟨_, rfl, _, _, _, [], _, [], hW', trodAll_mk1 (shut_bool Try.underlying4 _), (trodAll_cons_mk (Below.trod laidOut (by kernel_rfl) (of_decide_eq_true (by kernel_rfl)) k0 bel lt0) trodAll_mk0), rfl, bel.frame _, fun h => by cases h⟩

theorem over : Rows.flowTellsRow.holds Try.pinned (OpenSpec.ofChange Rows.flowTellsSpec) :=
  OpenClaim.holds_of_wide 3 Try.f3 rfl rfl rfl rfl rfl rfl rfl ⟨rfl, rfl, rfl, rfl, rfl⟩ rfl rfl rfl rfl rfl (by kernel_rfl) Try.func3 (by kernel_rfl)
    (of_decide_eq_true (by kernel_rfl)) (by unfold Func.isWrapper; first | (rw [if_pos (by decide +kernel)]; kernel_rfl) | (rw [if_neg (by decide +kernel)]; exact ⟨rfl, rfl⟩))
    (fun os started H enc _ => lifted os started H enc)

theorem proved : Rows.FlowTellsSaid := over
#print axioms proved
end Go.Proofs.Ytfmdljnagkjhdaa.flowTells
