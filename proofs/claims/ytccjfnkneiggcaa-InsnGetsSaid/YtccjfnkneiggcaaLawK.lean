/-
  Contracts of the laws' helpers: bytes, known.
-/
import Derived.Test.YtccjfnkneiggcaaRefPut
namespace Go.Proofs.Ytccjfnkneiggcaa.Insn
open Go.RowKit Go.Proofs.Ytccjfnkneiggcaa.Num Go.Proofs.Ytccjfnkneiggcaa.ListB
theorem dput_any (a : Option Addr) (len cap : Nat) (l : List In) (w : World) (h : ArgN w a len l) (hl : len ≤ 9223372036854775807) (hwf : WfL l) :
    Calls Try.prog 19 #[.slice a len cap] w (PutPost w l) := by
  by_cases h0 : 256 < len
  · exact dput_many a len cap l w h h0 hl
  · exact dput_row a len cap l w h (by omega) hwf
theorem rput_any (a : Option Addr) (len cap : Nat) (l : List In) (w : World) (h : ArgN w a len l) (hl : len ≤ 9223372036854775807) :
    Calls Try.prog 20 #[.slice a len cap] w (PutPost w l) := by
  by_cases h0 : 256 < len
  · exact rput_many a len cap l w h h0 hl
  · exact rput_row a len cap l w h (by omega)
theorem nrow_new (w : World) (x : In) : NRow (w.alloc (.cells #[.int .i64 x.op, .int .i64 x.d, .int .i64 x.s, .int .i64 x.o, .int .i64 x.m] 23)) w.heap.size 0 [x] := fun k y hk => by
  match k, hk with
  | 0, hk => simp at hk; subst hk; exact (XB.new w x).cells
  | k + 1, hk => simp at hk
theorem wfL_one {x : In} (h : InWf x) : WfL [x] := fun k y hk => by
  match k, hk with
  | 0, hk => simp at hk; subst hk; exact h
  | k + 1, hk => simp at hk
theorem own_cellB {w : World} {base g N c : Nat} {zs : List Int} (h : w.ownsRow base 5 1 (.slice (some ⟨g, 0, none⟩) N c) N (V zs)) (i : Nat) (hi : i < N) : w.cell? ⟨g, 0 + i, none⟩ = some (.int .u8 (zs.getD i 0)) := by
  have hz : zs.length = N := by have := h.1; unfold V at this; simpa using this
  rw [Nat.zero_add, h.cellAt i (by omega)]
  unfold V; simp [hz, hi]
set_option maxHeartbeats 1000000 in
theorem bytes_true (x : In) (b c : Nat) (want : List Int) (w : World) (hx : InWf x) (hc : x.chk = 0) (he : encOne x = want) (hb : b < w.heap.size) (hw : ∀ i, i < want.length → w.cell? ⟨b, 0 + i, none⟩ = some (.int .u8 (want.getD i 0))) (n : Nat) (hn : n = want.length) :
    Calls Try.prog 33 #[insnV x.op x.d x.s x.o x.m, .slice (some ⟨b, 0, none⟩) n c] w fun e w' => e = .returned (.bool true) ∧ Below w.heap.size w w' := by
  subst he
  have HW := hid hw
  have HN := hid hn
  have hpe : putErr [x] = 0 := by unfold putErr firstErr; simp [hc, firstErr]
  have hpl : putL [x] = encOne x := by rw [putL_ok hpe]; simp [enc]
  have hlen := encOne_length x
  have hl8 : 0 < lenI x.op ∧ lenI x.op ≤ 16 := by unfold lenI; split <;> omega
  have HP := hid (fun (w : World) => dput_any (some ⟨w.heap.size, 0, none⟩) 1 1 [x] (w.alloc (.cells #[.int .i64 x.op, .int .i64 x.d, .int .i64 x.s, .int .i64 x.o, .int .i64 x.m] 23)) ⟨rfl, fun _ => ⟨_, _, rfl, by simp, nrow_new w x⟩⟩ (by omega) (wfL_one hx))
  have HPE := hid hpe
  have HPL := hid hpl
  clear hw hn hx hc hpe hpl
  obtain ⟨xo, xd, xs, xf, xm⟩ := x
  unfold insnV
  simp only at HP hl8
  go_enter Try.func33, Try.ntmps33
  have HB0 := hid (below_new w (.cells #[.int .i64 xo, .int .i64 xd, .int .i64 xs, .int .i64 xf, .int .i64 xm] 23))
  have hz0 : w.heap.size + 1 = (w.alloc (.cells #[.int .i64 xo, .int .i64 xd, .int .i64 xs, .int .i64 xf, .int .i64 xm] 23)).heap.size := by simp
  have HZ0 := hid hz0
  clear hz0
  go_wp2_with fail
  have hz0 := HZ0.out
  rw [hz0]
  generalize w.alloc (.cells #[.int .i64 xo, .int .i64 xd, .int .i64 xs, .int .i64 xf, .int .i64 xm] 23) = W at HB0 HZ0 hz0 ⊢
  refine (HP.out W).mono ?_
  rintro e w1 ⟨v, rfl, hown, hb1⟩
  rw [HPE.out]
  rw [HPL.out, hlen] at hown
  obtain ⟨g, cp, rfl⟩ := own_shapeG hown hl8.1
  have hb2 : Below w.heap.size w w1 := HB0.out.trans (((below_new W (.cells #[.int .i64 xo, .int .i64 xd, .int .i64 xs, .int .i64 xf, .int .i64 xm] 23)).trans (hb1.mono (by simp))).mono (by omega))
  have S := same_row g b 0 0 (lenI xo) cp c (encOne ⟨xo, xd, xs, xf, xm⟩) (encOne ⟨xo, xd, xs, xf, xm⟩) w1 (by omega) hlen hlen (fun i hi => own_cellB hown i hi) (fun i hi => (hb2.cell (p := ⟨b, 0 + i, none⟩) hb).trans (HW.out i (by rw [hlen]; exact hi)))
  rw [show decide (encOne ⟨xo, xd, xs, xf, xm⟩ = encOne ⟨xo, xd, xs, xf, xm⟩) = true by simp] at S
  have hnl : n = lenI xo := HN.out.trans hlen
  rw [hnl]
  have HS := hid S
  have HB2 := hid hb2
  clear S hown hb1 hb2 hnl
  go_wp2_with fail
  refine HS.out.mono ?_
  rintro e w2 ⟨rfl, m, rfl⟩
  go_wp2_with fail
  go_ret
  exact ⟨rfl, ListB.below_drewN HB2.out m⟩
theorem known_wf (op d s o m : Int) (h : (-9223372036854775808 ≤ op ∧ op ≤ 9223372036854775807) ∧ (-9223372036854775808 ≤ d ∧ d ≤ 9223372036854775807) ∧ (-9223372036854775808 ≤ s ∧ s ≤ 9223372036854775807) ∧ (-9223372036854775808 ≤ o ∧ o ≤ 9223372036854775807) ∧ (-9223372036854775808 ≤ m ∧ m ≤ 9223372036854775807)) : InWf ⟨op, d, s, o, m⟩ :=
  ⟨WalkArith.wf_i64 h.1, WalkArith.wf_i64 h.2.1, WalkArith.wf_i64 h.2.2.1, WalkArith.wf_i64 h.2.2.2.1, WalkArith.wf_i64 h.2.2.2.2⟩
theorem lit_bytes (w : World) (g : Nat) (zs : List Int) (cs : Array Value) (t : TypeId) (h : w.heap[g]? = some (.cells cs t (0, 0))) (hv : cs.toList = V zs) : ∀ i, i < zs.length → w.cell? ⟨g, 0 + i, none⟩ = some (.int .u8 (zs.getD i 0)) := fun i hi => by
  rw [Nat.zero_add, cell_of_row w g i cs t (0, 0) h, ← Array.getElem?_toList, hv]; unfold V; simp [hi]
set_option maxHeartbeats 1000000 in
theorem known_any (w : World) : Calls Try.prog 17 #[] w fun e w' => e = .returned (.bool true) ∧ Below w.heap.size w w' := by
  have HB0 := hid (below_new w (.cells #[.int .u8 183, .int .u8 2, .int .u8 0, .int .u8 0, .int .u8 255, .int .u8 255, .int .u8 255, .int .u8 255] 5))
  have HBY := hid (bytes_true ⟨183, 2, 0, 0, -1⟩ w.heap.size 8 [183, 2, 0, 0, 255, 255, 255, 255] (w.alloc (.cells #[.int .u8 183, .int .u8 2, .int .u8 0, .int .u8 0, .int .u8 255, .int .u8 255, .int .u8 255, .int .u8 255] 5)) (known_wf _ _ _ _ _ (by omega)) (by kernel_rfl) (by kernel_rfl) (by simp) (lit_bytes _ _ _ _ _ (heap_alloc_new w _) rfl) 8 rfl)
  have HC1 := hid (fun w => dcheck_any 149 0 0 0 0 w (by decide))
  rw [show chkD 149 0 0 0 0 = 0 by kernel_rfl] at HC1
  have HC2 := hid (fun w => dcheck_any 7 10 0 0 0 w (by decide))
  rw [show chkD 7 10 0 0 0 = 8 by kernel_rfl] at HC2
  unfold insnV at HBY HC1 HC2
  go_enter Try.func17, Try.ntmps17
  go_wp2_with fail
  refine HBY.out.mono ?_
  rintro e w1 ⟨rfl, hb1⟩
  have HB1 := hid (HB0.out.trans (hb1.mono (by simp)))
  clear hb1
  go_wp2_with fail
  refine (HC1.out _).mono ?_
  rintro e w2 ⟨rfl, hb2⟩
  have HB2 := hid (HB1.out.trans (hb2.mono HB1.out.size))
  clear hb2
  go_wp2_with fail
  refine (HC2.out _).mono ?_
  rintro e w3 ⟨rfl, hb3⟩
  have HB3 := hid (HB2.out.trans (hb3.mono HB2.out.size))
  clear hb3
  go_wp2_with fail
  go_ret
  exact ⟨rfl, HB3.out⟩
end Go.Proofs.Ytccjfnkneiggcaa.Insn
