/-
  Contracts of the program's table of instructions: sizes, rowsOf.
-/
import Derived.Test.YtpknnmnknaaccaaDevOps
import Derived.Carry
namespace Go.Proofs.Ytpknnmnknaaccaa.Insn
open Go.RowKit Go.Proofs.Ytpknnmnknaaccaa.Num Go.Maps
def szs : List Int := [0, 8, 16, 24]
theorem sizes_any (l : Int) (w : World) : Calls Try.prog 54 #[.int .i64 l] w (OpcPost w l szs) := by
  go_enter Try.func54, Try.ntmps54
  go_wp2_with fail
  have hb := below_new w (.cells #[.int .i64 0, .int .i64 8, .int .i64 16, .int .i64 24] 3)
  have hn := nums_lit (w.alloc (.cells #[.int .i64 0, .int .i64 8, .int .i64 16, .int .i64 24] 3)) w.heap.size szs _ _ (heap_alloc_new w _) rfl
  have hz : (w.alloc (.cells #[.int .i64 0, .int .i64 8, .int .i64 16, .int .i64 24] 3)).heap.size = w.heap.size + 1 := by simp
  generalize w.alloc (.cells #[.int .i64 0, .int .i64 8, .int .i64 16, .int .i64 24] 3) = W at hb hn hz ⊢
  have HN := hid hn
  have HB := hid hb
  have hz2 : w.heap.size < W.heap.size := by omega
  clear hn hb hz
  refine (opcodes_any l w.heap.size 0 szs W (by decide) (by decide) hz2 HN.out).mono ?_
  rintro e w1 ⟨g, rfl, hg, hg', hN, hB⟩
  have HB1 := hid hB
  have HN1 := hid hN
  clear hN hB
  go_wp2_with fail
  go_ret
  exact ⟨g, rfl, by omega, hg', HN1.out, HB.out.trans (HB1.out.mono (by omega))⟩
def noF : Fun := fun _ => none
def rowsF (c : Int) : Fun :=
  if c = 0 then putRows noF [⟨0, [24], ⟨2, 4, false, 5⟩⟩]
  else if c = 1 then putRows noF [⟨0, orL 97 szs, ⟨2, 1, true, 0⟩⟩]
  else if c = 2 then putRows noF [⟨0, orL 98 szs, ⟨1, 0, true, 1⟩⟩]
  else if c = 3 then putRows noF [⟨0, orL 99 szs, ⟨1, 1, true, 0⟩⟩, ⟨0, orL 195 [0, 24], ⟨1, 3, true, 4⟩⟩]
  else if c = 4 then putRows (opsF noF 4) [⟨0, orL 212 [0, 8], ⟨2, 0, false, 3⟩⟩]
  else if c = 5 then putRows (cmpF noF 5) [⟨0, [5], ⟨0, 0, true, 0⟩⟩, ⟨0, [133], ⟨0, 0, false, 1⟩⟩, ⟨0, [149], ⟨0, 0, false, 0⟩⟩]
  else if c = 6 then cmpF noF 6
  else opsF noF 7
def TabPost (w : World) (F : Fun) (e : Ending) (w' : World) : Prop := ∃ mb, e = .returned (.map (some mb)) ∧ Tab w' mb 5000 F ∧ w.heap.size ≤ mb ∧ Below w.heap.size w w'
theorem below_of {w W w' : World} {mb : Nat} (h : Below w.heap.size w W) (hg : W.grownBy w' (some mb)) (hm : w.heap.size ≤ mb) : Below w.heap.size w w' := h.grown hg h.size (fun k hk => by cases hk; exact hm)
theorem two_alloc (w : World) (x y : Obj) : Below w.heap.size w ((w.alloc x).alloc y) := ((Below.refl _ _).alloc (Nat.le_refl _) _).alloc (by simp) _
theorem nums_two (w : World) (b : Nat) (x y : Int) (t : TypeId) (h : w.heap[b]? = some (.cells #[.int .i64 x, .int .i64 y] t (0, 0))) : Nums w b 0 [x, y] := nums_lit w b [x, y] _ t h rfl
/-- enter, of one row that is a list of its own. -/
theorem enter_one (mb n g k : Nat) (F : Fun) (l : Int) (us : List Int) (f : FV) (w : World) (hk : k = us.length) (hn : n ≤ 3000) (hT : Tab w mb n F) (hg : g < w.heap.size) (hne : g ≠ mb) (hN : Nums w g 0 (orL l us)) (hl : us.length ≤ 100) :
    Calls Try.prog 53 #[.map (some mb), .slice (some ⟨w.heap.size, 0, none⟩) 1 1] (w.alloc (.cells #[.slice (some ⟨g, 0, none⟩) k k, .int .u8 f.dst, .int .u8 f.src, .bool f.off, .int .u8 f.imm] 60)) fun e w' => e = .returned (.tuple #[]) ∧ Tab w' mb (n + 100) (putRows F [⟨0, orL l us, f⟩]) ∧ w.grownBy w' (some mb) := by
  have hmb := hT.lt
  refine (enter_any mb n w.heap.size 1 F [⟨g, orL l us, f⟩] _ (by simp; omega) (hT.alloc _) (by omega) (fun j r hr => ?_)).mono ?_
  · match j, hr with
    | 0, hr => cases hr; exact ⟨rowAt_mk hk (by simp) (by simp) (by simp) (by simp) (by simp) (nums_alloc hN hg _) (by simp; omega) hl, by simp only; omega⟩
    | k + 1, hr => cases hr
  · rintro e w3 ⟨rfl, hT3, hG3⟩
    exact ⟨rfl, hT3, grownBy_trans' (World.grownBy_alloc _ _ _) hG3⟩
/-- enter, of one row that has one opcode. -/
theorem enter_lone (mb n g : Nat) (F : Fun) (c : Int) (f : FV) (w : World) (hn : n ≤ 3000) (hT : Tab w mb n F) (hg : g < w.heap.size) (hne : g ≠ mb) (hN : Nums w g 0 [c]) (hc : (Lit.int .i64 c).wf = true) :
    Calls Try.prog 53 #[.map (some mb), .slice (some ⟨w.heap.size, 0, none⟩) 1 1] (w.alloc (.cells #[.slice (some ⟨g, 0, none⟩) 1 1, .int .u8 f.dst, .int .u8 f.src, .bool f.off, .int .u8 f.imm] 60)) fun e w' => e = .returned (.tuple #[]) ∧ Tab w' mb (n + 100) (putRows F [⟨0, [c], f⟩]) ∧ w.grownBy w' (some mb) := by
  have hmb := hT.lt
  refine (enter_any mb n w.heap.size 1 F [⟨g, [c], f⟩] _ (by simp; omega) (hT.alloc _) (by omega) (fun j r hr => ?_)).mono ?_
  · match j, hr with
    | 0, hr => cases hr; exact ⟨rowAt_one (by simp) (by simp) (by simp) (by simp) (by simp) (nums_alloc hN hg _) (by simp; omega) hc, by simp only; omega⟩
    | k + 1, hr => cases hr
  · rintro e w3 ⟨rfl, hT3, hG3⟩
    exact ⟨rfl, hT3, grownBy_trans' (World.grownBy_alloc _ _ _) hG3⟩
set_option maxHeartbeats 4000000 in
theorem rowsOf_6 (w : World) : Calls Try.prog 45 #[.int .i64 6] w (TabPost w (rowsF 6)) := by
  have hmm := @run_makeMap Try.prog
  have HT := hid (tab_made w)
  have HB := hid (below_new w (.map #[] 0))
  have hz : w.heap.size < (w.alloc (.map #[] 0)).heap.size := by simp
  go_enter Try.func45, Try.ntmps45
  go_wp2_with fail
  generalize w.alloc (.map #[] 0) = W at HT HB hz ⊢
  refine (comparisons_any w.heap.size 0 _ 6 (Or.inr rfl) W (by omega) HT.out).mono ?_
  rintro e w1 ⟨rfl, hTX, hGX⟩
  have HTX := hid hTX
  have HGX := hid hGX
  clear hTX hGX
  go_wp2_with fail
  go_ret
  exact ⟨_, rfl, HTX.out.mono (by omega), Nat.le_refl _, below_of HB.out HGX.out (Nat.le_refl _)⟩
set_option maxHeartbeats 4000000 in
theorem rowsOf_7 (w : World) : Calls Try.prog 45 #[.int .i64 7] w (TabPost w (rowsF 7)) := by
  have hmm := @run_makeMap Try.prog
  have HT := hid (tab_made w)
  have HB := hid (below_new w (.map #[] 0))
  have hz : w.heap.size < (w.alloc (.map #[] 0)).heap.size := by simp
  go_enter Try.func45, Try.ntmps45
  go_wp2_with fail
  generalize w.alloc (.map #[] 0) = W at HT HB hz ⊢
  refine (operations_7 w.heap.size 0 _ W (by omega) HT.out).mono ?_
  rintro e w1 ⟨rfl, hTX, hGX⟩
  have HTX := hid hTX
  have HGX := hid hGX
  clear hTX hGX
  go_wp2_with fail
  go_ret
  exact ⟨_, rfl, HTX.out.mono (by omega), Nat.le_refl _, below_of HB.out HGX.out (Nat.le_refl _)⟩
set_option maxHeartbeats 4000000 in
theorem rowsOf_1 (w : World) : Calls Try.prog 45 #[.int .i64 1] w (TabPost w (rowsF 1)) := by
  have hmm := @run_makeMap Try.prog
  have HT := hid (tab_made w)
  have HB := hid (below_new w (.map #[] 0))
  have hz : w.heap.size < (w.alloc (.map #[] 0)).heap.size := by simp
  go_enter Try.func45, Try.ntmps45
  go_wp2_with fail
  generalize w.alloc (.map #[] 0) = W at HT HB hz ⊢
  refine (sizes_any 97 W).mono ?_
  rintro e w1 ⟨g, rfl, hg, hg', hN, hB⟩
  have HN := hid hN
  have HB1 := hid hB
  have hsz := hB.size
  clear hN hB
  go_wp2_with fail
  refine (enter_one w.heap.size 0 g 4 noF 97 szs ⟨2, 1, true, 0⟩ w1 rfl (by omega) (HT.out.kept (grown_none HB1.out) (by simp)) (by omega) (by omega) HN.out (by decide)).mono ?_
  rintro e w2 ⟨rfl, hTX, hGX⟩
  have HTX := hid hTX
  have HGX := hid hGX
  clear hTX hGX
  go_wp2_with fail
  go_ret
  exact ⟨_, rfl, HTX.out.mono (by omega), Nat.le_refl _, below_of (HB.out.trans (HB1.out.mono (by omega))) HGX.out (Nat.le_refl _)⟩
set_option maxHeartbeats 4000000 in
theorem rowsOf_2 (w : World) : Calls Try.prog 45 #[.int .i64 2] w (TabPost w (rowsF 2)) := by
  have hmm := @run_makeMap Try.prog
  have HT := hid (tab_made w)
  have HB := hid (below_new w (.map #[] 0))
  have hz : w.heap.size < (w.alloc (.map #[] 0)).heap.size := by simp
  go_enter Try.func45, Try.ntmps45
  go_wp2_with fail
  generalize w.alloc (.map #[] 0) = W at HT HB hz ⊢
  refine (sizes_any 98 W).mono ?_
  rintro e w1 ⟨g, rfl, hg, hg', hN, hB⟩
  have HN := hid hN
  have HB1 := hid hB
  have hsz := hB.size
  clear hN hB
  go_wp2_with fail
  refine (enter_one w.heap.size 0 g 4 noF 98 szs ⟨1, 0, true, 1⟩ w1 rfl (by omega) (HT.out.kept (grown_none HB1.out) (by simp)) (by omega) (by omega) HN.out (by decide)).mono ?_
  rintro e w2 ⟨rfl, hTX, hGX⟩
  have HTX := hid hTX
  have HGX := hid hGX
  clear hTX hGX
  go_wp2_with fail
  go_ret
  exact ⟨_, rfl, HTX.out.mono (by omega), Nat.le_refl _, below_of (HB.out.trans (HB1.out.mono (by omega))) HGX.out (Nat.le_refl _)⟩
set_option maxHeartbeats 4000000 in
theorem rowsOf_0 (w : World) : Calls Try.prog 45 #[.int .i64 0] w (TabPost w (rowsF 0)) := by
  have hmm := @run_makeMap Try.prog
  have HT := hid (tab_made w)
  have HB := hid (below_new w (.map #[] 0))
  have hz : w.heap.size < (w.alloc (.map #[] 0)).heap.size := by simp
  go_enter Try.func45, Try.ntmps45
  go_wp2_with fail
  have hzW : w.heap.size + 1 = (w.alloc (.map #[] 0)).heap.size := by simp
  rw [hzW]
  generalize w.alloc (.map #[] 0) = W at HT HB hz hzW ⊢
  generalize hV : W.alloc (.cells #[.int .i64 24] 3) = V
  have hzV : W.heap.size + 1 = V.heap.size := by rw [← hV]; simp
  have HBV := hid (show Below W.heap.size W V from by rw [← hV]; exact below_new _ _)
  have HNV := hid (show Nums V W.heap.size 0 [24] from by rw [← hV]; exact nums_lit _ _ _ _ _ (heap_alloc_new W _) rfl)
  clear hV
  rw [hzV]
  refine (enter_lone w.heap.size 0 W.heap.size noF 24 ⟨2, 4, false, 5⟩ V (by omega) (HT.out.kept (grown_none HBV.out) (by simp)) (by omega) (by omega) HNV.out (by decide)).mono ?_
  rintro e w2 ⟨rfl, hTX, hGX⟩
  have HTX := hid hTX
  have HGX := hid hGX
  clear hTX hGX
  go_wp2_with fail
  go_ret
  exact ⟨_, rfl, HTX.out.mono (by omega), Nat.le_refl _, below_of (HB.out.trans (HBV.out.mono (by omega))) HGX.out (Nat.le_refl _)⟩
set_option maxHeartbeats 4000000 in
theorem rowsOf_3 (w : World) : Calls Try.prog 45 #[.int .i64 3] w (TabPost w (rowsF 3)) := by
  have hmm := @run_makeMap Try.prog
  have HT := hid (tab_made w)
  have HB := hid (below_new w (.map #[] 0))
  have hz : w.heap.size < (w.alloc (.map #[] 0)).heap.size := by simp
  go_enter Try.func45, Try.ntmps45
  go_wp2_with fail
  generalize w.alloc (.map #[] 0) = W at HT HB hz ⊢
  refine (sizes_any 99 W).mono ?_
  rintro e w1 ⟨g1, rfl, hg1, hg1', hN1, hB1⟩
  have HN1 := hid hN1
  have HB1 := hid hB1
  have hs1 := hB1.size
  clear hN1 hB1
  go_wp2_with fail
  generalize hV : w1.alloc (.cells #[.int .i64 0, .int .i64 24] 3) = V
  have hzV : w1.heap.size + 1 = V.heap.size := by rw [← hV]; simp
  have HBV := hid (show Below w1.heap.size w1 V from by rw [← hV]; exact below_new _ _)
  have HNV := hid (show Nums V w1.heap.size 0 [0, 24] from by rw [← hV]; exact nums_lit _ _ _ _ _ (heap_alloc_new w1 _) rfl)
  clear hV
  refine (opcodes_any 195 w1.heap.size 0 [0, 24] V (by decide) (by decide) (by omega) HNV.out).mono ?_
  rintro e w2 ⟨g2, rfl, hg2, hg2', hN2, hB2⟩
  have HN2 := hid hN2
  have HB2 := hid hB2
  have hs2 := hB2.size
  clear hN2 hB2
  go_wp2_with fail
  have hT2 : Tab w2 w.heap.size 0 noF := ((HT.out.kept (grown_none HB1.out) (by simp)).kept (grown_none HBV.out) (by simp)).kept (grown_none HB2.out) (by simp)
  have n1 := nums_up (nums_up HN1.out hg1' HBV.out) (by omega) HB2.out
  refine (enter_any w.heap.size 0 w2.heap.size 2 noF [⟨g1, orL 99 szs, ⟨1, 1, true, 0⟩⟩, ⟨g2, orL 195 [0, 24], ⟨1, 3, true, 4⟩⟩] _ (by simp) (hT2.alloc _) (by omega) (fun j r hr => ?_)).mono ?_
  · match j, hr with
    | 0, hr => cases hr; exact ⟨rowAt_mk (n := 4) rfl (by simp; rfl) (by simp) (by simp) (by simp) (by simp) (nums_alloc n1 (by omega) _) (by simp; omega) (by decide), by simp only; omega⟩
    | 1, hr => cases hr; exact ⟨rowAt_mk (n := 2) rfl (by simp) (by simp) (by simp) (by simp) (by simp) (nums_alloc HN2.out (by omega) _) (by simp; omega) (by decide), by simp only; omega⟩
    | k + 2, hr => cases hr
  · rintro e w3 ⟨rfl, hTX, hGX⟩
    have HTX := hid hTX
    have HGX := hid hGX
    clear hTX hGX hT2 n1
    go_wp2_with fail
    go_ret
    exact ⟨_, rfl, HTX.out.mono (by simp only [List.length_cons, List.length_nil]; omega), Nat.le_refl _, below_of (((HB.out.trans (HB1.out.mono (by omega))).trans (HBV.out.mono (by omega))).trans ((HB2.out.mono (by omega)).alloc (by omega) _)) HGX.out (Nat.le_refl _)⟩
set_option maxHeartbeats 4000000 in
theorem rowsOf_4 (w : World) : Calls Try.prog 45 #[.int .i64 4] w (TabPost w (rowsF 4)) := by
  have hmm := @run_makeMap Try.prog
  have HT := hid (tab_made w)
  have HB := hid (below_new w (.map #[] 0))
  have hz : w.heap.size < (w.alloc (.map #[] 0)).heap.size := by simp
  go_enter Try.func45, Try.ntmps45
  go_wp2_with fail
  generalize w.alloc (.map #[] 0) = W at HT HB hz ⊢
  refine (operations_4 w.heap.size 0 _ W (by omega) HT.out).mono ?_
  rintro e w1 ⟨rfl, hT1, hG1⟩
  have HT1 := hid hT1
  have HG1 := hid hG1
  have hs1 := hG1.size
  clear hT1 hG1
  go_wp2_with fail
  generalize hV : w1.alloc (.cells #[.int .i64 0, .int .i64 8] 3) = V
  have hzV : w1.heap.size + 1 = V.heap.size := by rw [← hV]; simp
  have HBV := hid (show Below w1.heap.size w1 V from by rw [← hV]; exact below_new _ _)
  have HNV := hid (show Nums V w1.heap.size 0 [0, 8] from by rw [← hV]; exact nums_lit _ _ _ _ _ (heap_alloc_new w1 _) rfl)
  clear hV
  refine (opcodes_any 212 w1.heap.size 0 [0, 8] V (by decide) (by decide) (by omega) HNV.out).mono ?_
  rintro e w2 ⟨g2, rfl, hg2, hg2', hN2, hB2⟩
  have HN2 := hid hN2
  have HB2 := hid hB2
  have hs2 := hB2.size
  clear hN2 hB2
  go_wp2_with fail
  refine (enter_one w.heap.size (0 + 500) g2 2 (opsF noF 4) 212 [0, 8] ⟨2, 0, false, 3⟩ w2 rfl (by omega) ((HT1.out.kept (grown_none HBV.out) (by simp)).kept (grown_none HB2.out) (by simp)) (by omega) (by omega) HN2.out (by decide)).mono ?_
  rintro e w3 ⟨rfl, hTX, hGX⟩
  have HTX := hid hTX
  have HGX := hid hGX
  clear hTX hGX
  go_wp2_with fail
  go_ret
  exact ⟨_, rfl, HTX.out.mono (by omega), Nat.le_refl _, below_of (((below_of HB.out HG1.out (Nat.le_refl _)).trans (HBV.out.mono (by omega))).trans (HB2.out.mono (by omega))) HGX.out (Nat.le_refl _)⟩
set_option maxHeartbeats 4000000 in
theorem rowsOf_5 (w : World) : Calls Try.prog 45 #[.int .i64 5] w (TabPost w (rowsF 5)) := by
  have hmm := @run_makeMap Try.prog
  have HT := hid (tab_made w)
  have HB := hid (below_new w (.map #[] 0))
  have hz : w.heap.size < (w.alloc (.map #[] 0)).heap.size := by simp
  go_enter Try.func45, Try.ntmps45
  go_wp2_with fail
  generalize w.alloc (.map #[] 0) = W at HT HB hz ⊢
  refine (comparisons_any w.heap.size 0 _ 5 (Or.inl rfl) W (by omega) HT.out).mono ?_
  rintro e w1 ⟨rfl, hT1, hG1⟩
  have HT1 := hid hT1
  have HG1 := hid hG1
  have hs1 := hG1.size
  clear hT1 hG1
  go_wp2_with fail
  generalize hV1 : w1.alloc (.cells #[.int .i64 5] 3) = V1
  have hzV1 : w1.heap.size + 1 = V1.heap.size := by rw [← hV1]; simp
  have HBV1 := hid (show Below w1.heap.size w1 V1 from by rw [← hV1]; exact below_new _ _)
  have HNV1 := hid (show Nums V1 w1.heap.size 0 [5] from by rw [← hV1]; exact nums_lit _ _ _ _ _ (heap_alloc_new w1 _) rfl)
  clear hV1
  rw [hzV1]
  generalize hV2 : V1.alloc (.cells #[.int .i64 133] 3) = V2
  have hzV2 : V1.heap.size + 1 = V2.heap.size := by rw [← hV2]; simp
  have HBV2 := hid (show Below V1.heap.size V1 V2 from by rw [← hV2]; exact below_new _ _)
  have HNV2 := hid (show Nums V2 V1.heap.size 0 [133] from by rw [← hV2]; exact nums_lit _ _ _ _ _ (heap_alloc_new V1 _) rfl)
  clear hV2
  rw [hzV2]
  generalize hV3 : V2.alloc (.cells #[.int .i64 149] 3) = V3
  have hzV3 : V2.heap.size + 1 = V3.heap.size := by rw [← hV3]; simp
  have HBV3 := hid (show Below V2.heap.size V2 V3 from by rw [← hV3]; exact below_new _ _)
  have HNV3 := hid (show Nums V3 V2.heap.size 0 [149] from by rw [← hV3]; exact nums_lit _ _ _ _ _ (heap_alloc_new V2 _) rfl)
  clear hV3
  rw [hzV3]
  have hT2 : Tab V3 w.heap.size (0 + 200) (cmpF noF 5) := ((HT1.out.kept (grown_none HBV1.out) (by simp)).kept (grown_none HBV2.out) (by simp)).kept (grown_none HBV3.out) (by simp)
  have n1 := nums_up (nums_up HNV1.out (by omega) HBV2.out) (by omega) HBV3.out
  have n2 := nums_up HNV2.out (by omega) HBV3.out
  refine (enter_any w.heap.size (0 + 200) V3.heap.size 3 (cmpF noF 5) [⟨w1.heap.size, [5], ⟨0, 0, true, 0⟩⟩, ⟨V1.heap.size, [133], ⟨0, 0, false, 1⟩⟩, ⟨V2.heap.size, [149], ⟨0, 0, false, 0⟩⟩] _ (by simp) (hT2.alloc _) (by omega) (fun j r hr => ?_)).mono ?_
  · match j, hr with
    | 0, hr => cases hr; exact ⟨rowAt_one (by simp) (by simp) (by simp) (by simp) (by simp) (nums_alloc n1 (by omega) _) (by simp; omega) (by decide), by simp only; omega⟩
    | 1, hr => cases hr; exact ⟨rowAt_one (by simp) (by simp) (by simp) (by simp) (by simp) (nums_alloc n2 (by omega) _) (by simp; omega) (by decide), by simp only; omega⟩
    | 2, hr => cases hr; exact ⟨rowAt_one (by simp) (by simp) (by simp) (by simp) (by simp) (nums_alloc HNV3.out (by omega) _) (by simp; omega) (by decide), by simp only; omega⟩
    | k + 3, hr => cases hr
  · rintro e w3 ⟨rfl, hTX, hGX⟩
    have HTX := hid hTX
    have HGX := hid hGX
    clear hTX hGX hT2 n1 n2
    go_wp2_with fail
    go_ret
    exact ⟨_, rfl, HTX.out.mono (by simp only [List.length_cons, List.length_nil]; omega), Nat.le_refl _, below_of ((((below_of HB.out HG1.out (Nat.le_refl _)).trans (HBV1.out.mono (by omega))).trans (HBV2.out.mono (by omega))).trans ((HBV3.out.mono (by omega)).alloc (by omega) _)) HGX.out (Nat.le_refl _)⟩
theorem rowsOf_any (c : Int) (w : World) (h0 : 0 ≤ c) (h7 : c ≤ 7) : Calls Try.prog 45 #[.int .i64 c] w (TabPost w (rowsF c)) := by
  have h : c = 0 ∨ c = 1 ∨ c = 2 ∨ c = 3 ∨ c = 4 ∨ c = 5 ∨ c = 6 ∨ c = 7 := by omega
  rcases h with rfl | rfl | rfl | rfl | rfl | rfl | rfl | rfl
  · exact rowsOf_0 w
  · exact rowsOf_1 w
  · exact rowsOf_2 w
  · exact rowsOf_3 w
  · exact rowsOf_4 w
  · exact rowsOf_5 w
  · exact rowsOf_6 w
  · exact rowsOf_7 w
end Go.Proofs.Ytpknnmnknaaccaa.Insn
