/-
  The contract of flow's landings: to which instructions jumps come down.
-/
import Derived.Test.YtpknnmnknaaccaaFlD
import Derived.Test.YtpknnmnknaaccaaFlE
import Derived.Deep.QuietTactic
import Derived.BigQuiet
namespace Go.Proofs.Ytpknnmnknaaccaa.Flow
open Go.RowKit Go.Proofs.Ytpknnmnknaaccaa.Num Go.Proofs.Ytpknnmnknaaccaa.ListB Go.Proofs.Ytpknnmnknaaccaa.Insn
theorem count_range (j : Nat) : ∀ n : Nat, j ≤ n → (List.range n).countP (fun k => decide (k < j)) = j := by
  intro n
  induction n with
  | zero =>
    intro h
    have e : j = 0 := by omega
    subst e
    rfl
  | succ n ih =>
    intro h
    rw [List.range_succ, List.countP_append, List.countP_singleton]
    by_cases e : n < j
    · obtain rfl : j = n + 1 := by omega
      have : (List.range n).countP (fun k => decide (k < n + 1)) = (List.range n).length := List.countP_eq_length.2 fun k hk => by
        have := List.mem_range.1 hk
        simp; omega
      rw [this]; simp
    · rw [ih (by omega)]; simp [e]
theorem plL_count {l : List In} {want : Int} {j : Nat} (h : findP l want = some j) : (plL l).countP (· < want) = j ∧ (plL l).contains want = true := by
  obtain ⟨hj, he⟩ := findP_some h
  constructor
  · unfold plL
    rw [List.countP_map]
    refine Eq.trans (List.countP_congr fun k hk => ?_) (count_range j l.length (by omega))
    have hk' := List.mem_range.1 hk
    simp only [Function.comp, decide_eq_true_eq]
    constructor
    · intro h1
      by_cases e : k < j
      · exact e
      · by_cases e' : k = j
        · subst e'; omega
        · have := plc_lt l (show j < k by omega) (by omega); omega
    · intro h1
      have := plc_lt l h1 (by omega); omega
  · rw [List.contains_iff_mem]
    unfold plL
    exact List.mem_map.2 ⟨j, List.mem_range.2 hj, he⟩
theorem plL_lost {l : List In} {want : Int} (h : findP l want = none) : (plL l).contains want = false := by
  rw [Bool.eq_false_iff]
  intro e
  obtain ⟨k, hk, he⟩ := List.mem_map.1 (List.contains_iff_mem.1 e)
  exact findP_none h k (List.mem_range.1 hk) he
theorem plL_sorted (l : List In) : (plL l).Pairwise (· ≤ ·) := by
  unfold plL
  rw [List.pairwise_map]
  refine List.Pairwise.imp_of_mem ?_ List.pairwise_lt_range
  intro a b ha hb hab
  have := plc_lt l hab (by have := List.mem_range.1 hb; omega)
  omega
/-- The program's search among the places. -/
theorem bs_any (gp cp n : Nat) (l : List In) (want : Int) (w : World) (hn : l.length = n) (h1 : n ≤ 1000) (hown : ∀ i, i < n → w.cell? ⟨gp, 0 + i, none⟩ = some (.int .i64 ((plL l).getD i 0))) :
    Calls Try.prog 49 #[.slice (some ⟨gp, 0, none⟩) n cp, .int .i64 want] w fun e w' => e = .returned (.tuple #[.int .i64 ((plL l).countP (· < want) : Nat), .bool ((plL l).contains want)]) ∧ ∃ q, w' = w.drewN q := by
  have hl : (plL l).length = n := by rw [plL_length, hn]
  have := Shelf.slices_BinarySearch_int gp 0 n cp (plL l) want w (by omega) (by omega) (fun j hj => hown j (by omega)) (by rw [List.take_of_length_le (by omega)]; exact plL_sorted l)
  rw [List.take_of_length_le (by omega)] at this
  exact this
/-- Each jump ahead of k comes down. -/
def LandTo (l : List In) (k : Nat) : Prop := ∀ i, i < k → jmpB (at' l i).op = true → 0 ≤ tgI l i
theorem land_all {l : List In} (h : LandTo l l.length) : landB l = true := (landB_iff l).2 h
theorem land_no {l : List In} {k : Nat} (hk : k < l.length) (hj : jmpB (at' l k).op = true) (h : tgI l k < 0) : landB l = false := by
  rw [Bool.eq_false_iff]
  intro e
  have := (landB_iff l).1 e k hk hj
  omega
theorem land_next {l : List In} {k : Nat} (h : LandTo l k) (hk : jmpB (at' l k).op = true → 0 ≤ tgI l k) : LandTo l (k + 1) := fun i hi hj => by
  by_cases e : i = k
  · subst e; exact hk hj
  · exact h i (by omega) hj
theorem tgI_no {l : List In} {k : Nat} (h : jmpB (at' l k).op = false) : tgI l k = -1 := by unfold tgI; rw [h]; rfl
theorem tgI_some {l : List In} {k j : Nat} (h : jmpB (at' l k).op = true) (hf : findP l (wantP l k) = some j) : tgI l k = j := by unfold tgI; rw [h, hf]; rfl
theorem tgI_none {l : List In} {k : Nat} (h : jmpB (at' l k).op = true) (hf : findP l (wantP l k) = none) : tgI l k = -1 := by unfold tgI; rw [h, hf]; rfl
theorem new_cell {w : World} {cs : Array Value} {T : TypeId} {k j : Nat} {u : Value} (hk : w.heap.size = k) (hj : cs[j]? = some u) : (w.alloc (.cells cs T)).cell? ⟨k, j, none⟩ = some u := by
  subst hk; simp [hj]
/-- What landings hands back. -/
def LandPost (w : World) (n : Nat) (l : List In) (e : Ending) (w' : World) : Prop :=
  Below w.heap.size w w' ∧ ((landB l = false ∧ e = .returned (.tuple #[.slice none 0 0, .bool false])) ∨ (landB l = true ∧ ∃ v, e = .returned (.tuple #[v, .bool true]) ∧ w'.ownsRow w.heap.size 3 1 v n (VI (tgL l))))
theorem land_bad {w w' : World} {n : Nat} {l : List In} (hb : Below w.heap.size w w') (h : landB l = false) : LandPost w n l (.returned (.tuple #[.slice none 0 0, .bool false])) w' := ⟨hb, Or.inl ⟨h, rfl⟩⟩
theorem land_good {w w' : World} {n : Nat} {l : List In} {v : Value} (hb : Below w.heap.size w w') (h : landB l = true) (ho : w'.ownsRow w.heap.size 3 1 v n (VI (tgL l))) : LandPost w n l (.returned (.tuple #[v, .bool true])) w' := ⟨hb, Or.inr ⟨h, v, rfl, ho⟩⟩
/-- Offsets are small. -/
def OffL (l : List In) : Prop := ∀ (k : Nat) (x : In), l[k]? = some x → -32768 ≤ x.o ∧ x.o ≤ 32767
set_option maxHeartbeats 4000000 in
theorem landings_any (a : Option Addr) (len cap : Nat) (l : List In) (w : World) (h : ArgN w a len l) (hl : len ≤ 1000) (h0 : 0 < len) (hof : OffL l) :
    Calls Try.prog 33 #[.slice a len cap] w (LandPost w len l) := by
  obtain ⟨i0, hi, hz0, hz1, hz2⟩ := info_parts infoInt
  have HA := hid h
  have HZ := hid h.1
  have HOF := hid hof
  have HPL := hid (places_any a len cap l w h hl)
  have HLN := hid (show (plL l).length = len by rw [plL_length, HZ.out])
  have HL := hid (fun k (h : k < len) => mk_set (tgL l) k (by rw [tgL_length, HZ.out]; exact h))
  have HG := hid (fun k (h : k < len) => tgL_get l k (by rw [HZ.out]; exact h))
  have HPG := hid (fun k (h : k < len) => plL_get l k (by rw [HZ.out]; exact h))
  have HM := hid (fun k (h : k ≤ len) => (show (mk (tgL l) k).length = len by rw [mk_length _ _ (by rw [tgL_length, HZ.out]; exact h), tgL_length, HZ.out]))
  have HP := hid (fun k (h : k ≤ len) => plc_le l k (by rw [HZ.out]; exact h))
  have HD := hid (show mk (tgL l) len = tgL l by have := mk_done (tgL l); rw [tgL_length, HZ.out] at this; exact this)
  have H0 := hid (show mk (tgL l) 0 = List.replicate len 0 by rw [mk_zero, tgL_length, HZ.out])
  have HBS := hid (fun gp cp want w (hc : ∀ i, i < len → w.cell? ⟨gp, 0 + i, none⟩ = some (.int .i64 ((plL l).getD i 0))) => bs_any gp cp len l want w HZ.out hl hc)
  have HLB := hid (fun w' k (hb : Below w.heap.size w w') (hk : k < len) (hj : jmpB (at' l k).op = true) (ht : tgI l k < 0) => land_bad (n := len) hb (land_no (by rw [HZ.out]; exact hk) hj ht))
  have HLG := hid (fun w' v (hb : Below w.heap.size w w') (hk : LandTo l len) (ho : w'.ownsRow w.heap.size 3 1 v len (VI (tgL l))) => land_good hb (land_all (by rw [HZ.out]; exact hk)) ho)
  clear h hof
  go_enter Try.func33, Try.ntmps33
  go_wp2_with fail
  refine HPL.out.mono ?_
  rintro e w0 ⟨vp, rfl, hownp, hbp⟩
  rw [HLN.out] at hownp
  obtain ⟨gp, cp, rfl⟩ := own_shape hownp h0
  have HOP := hid hownp
  have HBP := hid hbp
  have hsp := hbp.size
  have hgp := hownp.lt gp rfl
  clear hownp hbp HPL
  go_wp2_with (at_make; refine wpList_make_full _ rfl _ _ 26 rfl w0.heap.size 3 i0 (.int .i64 0) 1 Try.underlying26 hi hz0 hz1 .i64 .i64 _ _ len rfl rfl rfl rfl (by rw [hz2]; omega) (by unfold maxLen; omega) (Nat.le_refl _) ?_; intro w1 hown1 hgrow1)
  have hst : w1.ownsRow w0.heap.size 3 1 (.slice (some ⟨w0.heap.size, 0, none⟩) len len) len (VI (mk (tgL l) 0)) := by
    rw [H0.out]
    exact make_own hown1
  have hb1 : Below w0.heap.size w0 w1 := ⟨hgrow1.os, hgrow1.tape, hgrow1.output, hgrow1.size, fun k hk => hgrow1.block k hk (by simp)⟩
  have hop1 := HOP.out.kept (grown_of2 hb1) (Classical.em _)
  have HST := hid hst
  have HB1 := hid (HBP.out.trans (hb1.mono hsp))
  have HO1 := hid hop1
  have hgg : gp < w0.heap.size := hgp.2
  clear hst hown1 hgrow1 hb1 hop1
  obtain ⟨g, hg⟩ : ∃ g, w0.heap.size = g := ⟨_, rfl⟩
  rw [hg] at HST hgg hsp ⊢
  have hgp1 := hgp.1
  clear hgp hg HOP
  go_wp2
  go_loopw [17] (fun i wr => ∃ k : Nat, k ≤ len ∧ i = .int .i64 k ∧ Hid (LandTo l k) ∧ wr.ownsRow g 3 1 (.slice (some ⟨g, 0, none⟩) len len) len (VI (mk (tgL l) k)) ∧ wr.ownsRow w.heap.size 3 1 (.slice (some ⟨gp, 0, none⟩) len cp) len (VI (plL l)) ∧ Below w.heap.size w wr) (fun i _ => len - (intOf i).toNat)
  case atStart => exact ⟨0, Nat.zero_le _, rfl, hid (fun i hi => by omega), HST.out, HO1.out, HB1.out⟩
  case round =>
    obtain ⟨k, hk, rfl, HLT, hown, hownp, hbel⟩ := hrel
    by_cases hlt : k < len
    · obtain ⟨x, hx⟩ : ∃ x, l[k]? = some x := ⟨_, List.getElem?_eq_getElem (by rw [HZ.out]; exact hlt)⟩
      obtain ⟨b, off, rfl, hb, hc⟩ := HA.out.2 (by omega)
      obtain ⟨c0, c1, c2, c3, c4⟩ := (hc.below hbel hb) k x hx
      have hpk := HP.out k (by omega)
      have hoff := HOF.out k x hx
      have HAT := hid (at_some hx)
      have HJ := hid (fun w => jumps_any x w)
      have hgs := (hown.lt _ rfl).2
      have hgps := (hownp.lt _ rfl).2
      have hfr := (hown.alloc (.cells #[.int .i64 x.op, .int .i64 x.d, .int .i64 x.s, .int .i64 x.o, .int .i64 x.m] 35)).frozenAt k
      have hcell := ((hown.alloc (.cells #[.int .i64 x.op, .int .i64 x.d, .int .i64 x.s, .int .i64 x.o, .int .i64 x.m] 35)).cellAt k (by omega)).trans (VI_get _ _ (by rw [HM.out k (by omega)]; omega))
      have hst := hown.stored k (.int .i64 (-1))
      rw [VI_set] at hst
      have hopk := hownp.kept hst.2 (Or.inr (by simp [Value.ownBlock]; omega))
      have HST := hid (hst.1.alloc (.cells #[.int .i64 x.op, .int .i64 x.d, .int .i64 x.s, .int .i64 x.o, .int .i64 x.m] 35))
      have HOP := hid (hopk.alloc (.cells #[.int .i64 x.op, .int .i64 x.d, .int .i64 x.s, .int .i64 x.o, .int .i64 x.m] 35))
      have hsb := hbel.setCell (p := ⟨g, k, none⟩) (by simpa using hsp) (.int .i64 (-1))
      have HB := hid (hsb.alloc hsb.size (.cells #[.int .i64 x.op, .int .i64 x.d, .int .i64 x.s, .int .i64 x.o, .int .i64 x.m] 35))
      obtain ⟨y, hy⟩ : ∃ y, (mk (tgL l) k).getD k 0 = y := ⟨_, rfl⟩
      rw [hy] at hcell
      obtain ⟨j, hj⟩ : ∃ j, jmpB x.op = j := ⟨_, rfl⟩
      rw [hj] at HJ
      have HJJ := hid (show jmpB (at' l k).op = j by rw [HAT.out]; exact hj)
      have HW := hid (show wantP l k = (plc l k : Int) + 1 + x.o by unfold wantP; rw [HAT.out])
      clear hst hopk hown hownp hbel hx hy hj hsb hc hb
      obtain ⟨xo, xd, xs, xf, xm⟩ := x
      unfold insnV at HJ
      simp only at c0 c1 c2 c3 c4 hfr hcell HST HOP HB HJ hoff HW
      go_wp2_with fail
      refine (HJ.out _).mono ?_
      rintro e w2 ⟨rfl, hb2⟩
      have y3 := cell_up (b := wr.heap.size) (o := 3) (v := .int .i64 xf) (new_cell (by simp) rfl) hb2 (by simp)
      have HOW := hid (HST.out.kept (grown_of2 hb2) (Classical.em _))
      have HOPW := hid (HOP.out.kept (grown_of2 hb2) (Classical.em _))
      have HBW := hid (HB.out.trans (hb2.mono HB.out.size))
      clear hb2 c0 c1 c2 c3 c4 hfr hcell HST HOP HB
      cases j
      · have HT := hid (tgI_no HJJ.out)
        have HN := hid (land_next HLT.out (fun h => by rw [HJJ.out] at h; cases h))
        have HOK := hid (show w2.ownsRow g 3 1 (.slice (some ⟨g, 0, none⟩) len len) len (VI (mk (tgL l) (k + 1))) from by
          rw [← HL.out k hlt, HG.out k hlt, HT.out]; exact HOW.out)
        go_wp2_with fail
        go_roundw
        case rel => exact ⟨k + 1, by omega, by go_num, HN, HOK.out, HOPW.out, HBW.out⟩
        case measure => simp [intOf]; omega
      · have hpc := (HOPW.out.cellAt k (by omega)).trans (VI_get _ _ (by rw [HLN.out]; exact hlt))
        rw [HPG.out k hlt] at hpc
        obtain ⟨p, hp⟩ : ∃ p, plc l k = p := ⟨_, rfl⟩
        rw [hp] at hpk hpc HW
        have HCP := hid (fun i (hi : i < len) => show w2.cell? ⟨gp, 0 + i, none⟩ = some (.int .i64 ((plL l).getD i 0)) from by
          rw [Nat.zero_add, HOPW.out.cellAt i (by omega)]; exact VI_get _ _ (by rw [HLN.out]; exact hi))
        have hk0 : (0 : Int) ≤ (k : Int) := by omega
        have hk1 : (k : Int) < (len : Int) := by omega
        cases hf : findP l (wantP l k) with
        | none =>
          have HF := hid (tgI_none HJJ.out hf)
          have HR := hid (fun m => by
            have := HBS.out gp cp ((p : Int) + 1 + xf) (w2.drewN m) HCP.out
            rw [← HW.out, plL_lost hf] at this
            exact this)
          generalize List.countP (fun x => decide (x < wantP l k)) (plL l) = cnt at HR
          rw [HW.out] at HR
          have HLB' := hid (fun w' hb => HLB.out w' k hb hlt HJJ.out (by rw [HF.out]; omega))
          clear hf hp
          go_wp2_with fail
          go_quiet (first | (go_at_call 49; exact Calls.quiet_of (HR.out _)))
          go_wp2_with fail
          go_ret2
          exact HLB'.out _ (ListB.below_drewN HBW.out _)
        | some t =>
          have HF := hid (tgI_some HJJ.out hf)
          have HR := hid (fun m => by
            have := HBS.out gp cp ((p : Int) + 1 + xf) (w2.drewN m) HCP.out
            rw [← HW.out, (plL_count hf).1, (plL_count hf).2] at this
            exact this)
          rw [HW.out] at HR
          have HN := hid (land_next HLT.out (fun h => by rw [HF.out]; omega))
          have hfr := HOW.out.frozenAt k
          have hcell := (HOW.out.cellAt k (by omega)).trans (VI_get _ _ (by rw [List.length_set, HM.out k (by omega)]; omega))
          have hst := HOW.out.stored k (.int .i64 (t : Nat))
          rw [VI_set, List.set_set, ← HF.out, ← HG.out k hlt, HL.out k hlt, HG.out k hlt, HF.out] at hst
          have HST := hid hst.1
          have hopk := HOPW.out.kept hst.2 (Or.inr (by simp [Value.ownBlock]; omega))
          have HOP := hid hopk
          have HB := hid (HBW.out.setCell (p := ⟨g, k, none⟩) (by simpa using hsp) (.int .i64 (t : Nat)))
          clear hf hp hst hopk
          go_wp2_with fail
          go_quiet (first | (go_at_call 49; exact Calls.quiet_of (HR.out _)))
          go_wp2_with fail
          go_roundw
          case rel => exact ⟨k + 1, by omega, by go_num, HN, HST.out, HOP.out, ListB.below_drewN HB.out _⟩
          case measure => simp [intOf]; omega
    · have hkn : k = len := by omega
      have hown2 := hown
      rw [hkn, HD.out] at hown2
      have HO := hid (hown2.mono (show w.heap.size ≤ g from hsp))
      have HB := hid hbel
      have HLT2 := hid (show LandTo l len from hkn ▸ HLT.out)
      have hge : len ≤ k := by omega
      clear hown hown2 hkn hbel hownp
      go_wp2
      go_ret2
      exact HLG.out _ _ HB.out HLT2.out HO.out
end Go.Proofs.Ytpknnmnknaaccaa.Flow
