/-
  Contracts of the program's table of instructions: sizes, enterComparisons, enterOperations, rowsOf.
-/
import Derived.Test.YtpknnmnknaaccaaDevEnter
import Derived.Deep.RegionHeld3
namespace Go.Proofs.Ytpknnmnknaaccaa.Insn
open Go.RowKit Go.Proofs.Ytpknnmnknaaccaa.Num Go.Maps
theorem nums_kept {w w' : World} {g o : Nat} {zs : List Int} (h : Nums w g o zs) {r : Option Nat} (hg : w.grownBy w' r) (hne : some g ≠ r) : Nums w' g o zs :=
  fun i hi => hg.cell (h i hi) (by simpa using hne)
theorem grown_none {w w' : World} (h : Below w.heap.size w w') : w.grownBy w' none := ⟨h.os, h.tape, h.output, h.size, fun k hk _ => h.block k hk⟩
theorem cell_up {w w' : World} {b o : Nat} {v : Value} (h : w.cell? ⟨b, o, none⟩ = some v) {B : Nat} (hb : Below B w w') (hB : b < B) : w'.cell? ⟨b, o, none⟩ = some v := (hb.cell (p := ⟨b, o, none⟩) hB).trans h
def cmps : List Int := [16, 32, 48, 64, 80, 96, 112, 160, 176, 192, 208]
def cmpF (F : Fun) (c : Int) : Fun := putRows F [⟨0, orL c cmps, ⟨1, 0, true, 1⟩⟩, ⟨0, orL (bits .or .i64 c 8) cmps, ⟨1, 1, true, 0⟩⟩]
theorem orL_wf (l : Int) (us : List Int) (i : Nat) : (Lit.int .i64 ((orL l us).getD i 0)).wf = true := by
  apply WalkArith.wf_i64
  by_cases h : i < us.length
  · have e : (orL l us).getD i 0 = bits .or .i64 (us.getD i 0) l := by simp [orL, h]
    rw [e]; unfold bits; simp only; rw [IntKind.wrap_i64]; omega
  · have e : (orL l us).getD i 0 = 0 := by rw [List.getD_eq_getElem?_getD, List.getElem?_eq_none (by simp [orL]; omega)]; rfl
    rw [e]; omega
theorem rowAt_mk {W : World} {rb g j n : Nat} {l : Int} {us : List Int} {f : FV} (hn : n = us.length) (c0 : W.cell? ⟨rb, j * 5, none⟩ = some (.slice (some ⟨g, 0, none⟩) n n)) (c1 : W.cell? ⟨rb, j * 5 + 1, none⟩ = some (.int .u8 f.dst))
    (c2 : W.cell? ⟨rb, j * 5 + 2, none⟩ = some (.int .u8 f.src)) (c3 : W.cell? ⟨rb, j * 5 + 3, none⟩ = some (.bool f.off)) (c4 : W.cell? ⟨rb, j * 5 + 4, none⟩ = some (.int .u8 f.imm))
    (hN : Nums W g 0 (orL l us)) (hg : g < W.heap.size) (hl : us.length ≤ 100) : RowAt W rb j ⟨g, orL l us, f⟩ :=
  ⟨by rw [c0, hn]; simp [orL], c1, c2, c3, c4, hN, hg, by simpa [orL] using hl, orL_wf l us⟩
theorem nums_up {w w' : World} {g o : Nat} {zs : List Int} (h : Nums w g o zs) (hg : g < w.heap.size) (hb : Below w.heap.size w w') : Nums w' g o zs :=
  fun i hi => (hb.cell (p := ⟨g, o + i, none⟩) hg).trans (h i hi)
theorem nums_alloc {w : World} {g o : Nat} {zs : List Int} (h : Nums w g o zs) (hg : g < w.heap.size) (x : Obj) : Nums (w.alloc x) g o zs :=
  nums_up h hg ((Below.refl _ _).alloc (Nat.le_refl _) _)
theorem nums_lit (w : World) (g : Nat) (zs : List Int) (cs : Array Value) (t : TypeId) (h : w.heap[g]? = some (.cells cs t (0, 0))) (hv : cs.toList = VI zs) : Nums w g 0 zs := fun i hi => by
  rw [Nat.zero_add, cell_of_row w g i cs t (0, 0) h, ← Array.getElem?_toList, hv]; exact VI_get zs i hi
set_option maxHeartbeats 2000000 in
theorem comparisons_any (mb n : Nat) (F : Fun) (c : Int) (hc : c = 5 ∨ c = 6) (w : World) (hn : n ≤ 5000) (hT : Tab w mb n F) :
    Calls Try.prog 57 #[.map (some mb), .int .i64 c] w fun e w' => e = .returned (.tuple #[]) ∧ Tab w' mb (n + 200) (cmpF F c) ∧ w.grownBy w' (some mb) := by
  have HT := hid hT; clear hT
  rcases hc with rfl | rfl
  · go_enter Try.func57, Try.ntmps57
    go_wp2_with fail
    have hmb := HT.out.lt
    generalize hW : w.alloc (.cells #[.int .i64 16, .int .i64 32, .int .i64 48, .int .i64 64, .int .i64 80, .int .i64 96, .int .i64 112, .int .i64 160, .int .i64 176, .int .i64 192, .int .i64 208] 3) = W
    have hn0 : Hid (Nums W w.heap.size 0 cmps) := hid (by rw [← hW]; exact nums_lit _ _ _ _ _ (heap_alloc_new w _) rfl)
    have hT0 : Hid (Tab W mb n F) := hid (by rw [← hW]; exact HT.out.alloc _)
    have hg0 : Hid (w.grownBy W (some mb)) := hid (by rw [← hW]; exact World.grownBy_alloc _ _ _)
    have hs : w.heap.size < W.heap.size := by rw [← hW]; simp
    clear hW
    refine (opcodes_any _ w.heap.size 0 cmps W (by decide) (by decide) hs hn0.out).mono ?_
    rintro e w1 ⟨g1, rfl, hg1, hg1', hN1, hB1⟩
    have HN1 := hid hN1
    have HB1 := hid hB1
    have hs1 := hB1.size
    clear hN1 hB1
    go_wp2_with fail
    refine (opcodes_any _ w.heap.size 0 cmps w1 (by decide) (by decide) (by omega) (nums_kept hn0.out (grown_none HB1.out) (by simp))).mono ?_
    rintro e w2 ⟨g2, rfl, hg2, hg2', hN2, hB2⟩
    have HN2 := hid hN2
    have HB2 := hid hB2
    have hs2 := hB2.size
    clear hN2 hB2
    go_wp2_with fail
    have hW2 := fun (cs : Array Value) => heap_alloc_new w2 (.cells cs 60)
    have hTF : ∀ o, Tab (w2.alloc o) mb n F := fun o => ((hT0.out.kept (grown_none HB1.out) (by simp)).kept (grown_none HB2.out) (by simp)).alloc o
    have hGF : ∀ o, w.grownBy (w2.alloc o) (some mb) := fun o => grownBy_trans' hg0.out (grownBy_trans' ⟨HB1.out.os, HB1.out.tape, HB1.out.output, HB1.out.size, fun k hk _ => HB1.out.block k hk⟩ (grownBy_trans' ⟨HB2.out.os, HB2.out.tape, HB2.out.output, HB2.out.size, fun k hk _ => HB2.out.block k hk⟩ (World.grownBy_alloc w2 o _)))
    have hNa := fun o => nums_alloc (nums_up HN1.out hg1' HB2.out) (by omega) o
    have hNb := fun o => nums_alloc HN2.out hg2' o
    refine (enter_any mb n w2.heap.size 2 F [⟨g1, orL 5 cmps, ⟨1, 0, true, 1⟩⟩, ⟨g2, orL (bits .or .i64 5 8) cmps, ⟨1, 1, true, 0⟩⟩] _ (by simp; omega) (hTF _) (by omega) (fun j r hr => ?_)).mono ?_
    · match j, hr with
      | 0, hr => cases hr; exact ⟨rowAt_mk (n := 11) rfl (by simp; rfl) (by simp) (by simp) (by simp) (by simp) (hNa _) (by simp; omega) (by decide), by simp only; omega⟩
      | 1, hr => cases hr; exact ⟨rowAt_mk (n := 11) rfl (by simp; rfl) (by simp) (by simp) (by simp) (by simp) (hNb _) (by simp; omega) (by decide), by simp only; omega⟩
      | k + 2, hr => cases hr
    · rintro e w3 ⟨rfl, hT3, hG3⟩
      have HT3 := hid hT3
      have HG3 := hid (grownBy_trans' (hGF _) hG3)
      clear hT3 hG3 hTF hGF hNa hNb hW2
      go_wp2_with fail
      go_end0
      exact ⟨rfl, HT3.out, HG3.out⟩
  · go_enter Try.func57, Try.ntmps57
    go_wp2_with fail
    have hmb := HT.out.lt
    generalize hW : w.alloc (.cells #[.int .i64 16, .int .i64 32, .int .i64 48, .int .i64 64, .int .i64 80, .int .i64 96, .int .i64 112, .int .i64 160, .int .i64 176, .int .i64 192, .int .i64 208] 3) = W
    have hn0 : Hid (Nums W w.heap.size 0 cmps) := hid (by rw [← hW]; exact nums_lit _ _ _ _ _ (heap_alloc_new w _) rfl)
    have hT0 : Hid (Tab W mb n F) := hid (by rw [← hW]; exact HT.out.alloc _)
    have hg0 : Hid (w.grownBy W (some mb)) := hid (by rw [← hW]; exact World.grownBy_alloc _ _ _)
    have hs : w.heap.size < W.heap.size := by rw [← hW]; simp
    clear hW
    refine (opcodes_any _ w.heap.size 0 cmps W (by decide) (by decide) hs hn0.out).mono ?_
    rintro e w1 ⟨g1, rfl, hg1, hg1', hN1, hB1⟩
    have HN1 := hid hN1
    have HB1 := hid hB1
    have hs1 := hB1.size
    clear hN1 hB1
    go_wp2_with fail
    refine (opcodes_any _ w.heap.size 0 cmps w1 (by decide) (by decide) (by omega) (nums_kept hn0.out (grown_none HB1.out) (by simp))).mono ?_
    rintro e w2 ⟨g2, rfl, hg2, hg2', hN2, hB2⟩
    have HN2 := hid hN2
    have HB2 := hid hB2
    have hs2 := hB2.size
    clear hN2 hB2
    go_wp2_with fail
    have hW2 := fun (cs : Array Value) => heap_alloc_new w2 (.cells cs 60)
    have hTF : ∀ o, Tab (w2.alloc o) mb n F := fun o => ((hT0.out.kept (grown_none HB1.out) (by simp)).kept (grown_none HB2.out) (by simp)).alloc o
    have hGF : ∀ o, w.grownBy (w2.alloc o) (some mb) := fun o => grownBy_trans' hg0.out (grownBy_trans' ⟨HB1.out.os, HB1.out.tape, HB1.out.output, HB1.out.size, fun k hk _ => HB1.out.block k hk⟩ (grownBy_trans' ⟨HB2.out.os, HB2.out.tape, HB2.out.output, HB2.out.size, fun k hk _ => HB2.out.block k hk⟩ (World.grownBy_alloc w2 o _)))
    have hNa := fun o => nums_alloc (nums_up HN1.out hg1' HB2.out) (by omega) o
    have hNb := fun o => nums_alloc HN2.out hg2' o
    refine (enter_any mb n w2.heap.size 2 F [⟨g1, orL 6 cmps, ⟨1, 0, true, 1⟩⟩, ⟨g2, orL (bits .or .i64 6 8) cmps, ⟨1, 1, true, 0⟩⟩] _ (by simp; omega) (hTF _) (by omega) (fun j r hr => ?_)).mono ?_
    · match j, hr with
      | 0, hr => cases hr; exact ⟨rowAt_mk (n := 11) rfl (by simp; rfl) (by simp) (by simp) (by simp) (by simp) (hNa _) (by simp; omega) (by decide), by simp only; omega⟩
      | 1, hr => cases hr; exact ⟨rowAt_mk (n := 11) rfl (by simp; rfl) (by simp) (by simp) (by simp) (by simp) (hNb _) (by simp; omega) (by decide), by simp only; omega⟩
      | k + 2, hr => cases hr
    · rintro e w3 ⟨rfl, hT3, hG3⟩
      have HT3 := hid hT3
      have HG3 := hid (grownBy_trans' (hGF _) hG3)
      clear hT3 hG3 hTF hGF hNa hNb hW2
      go_wp2_with fail
      go_end0
      exact ⟨rfl, HT3.out, HG3.out⟩

end Go.Proofs.Ytpknnmnknaaccaa.Insn
