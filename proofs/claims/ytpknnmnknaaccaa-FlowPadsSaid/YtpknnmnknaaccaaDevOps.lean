/-
  Contracts of the program's table of instructions: enterOperations.
-/
import Derived.Test.YtpknnmnknaaccaaDevRows
import Derived.Deep.RegionHeld3
namespace Go.Proofs.Ytpknnmnknaaccaa.Insn
open Go.RowKit Go.Proofs.Ytpknnmnknaaccaa.Num Go.Maps
def plain : List Int := [0, 16, 32, 48, 64, 80, 144, 160, 176]
def shifts : List Int := [96, 112, 192]
def opsF (F : Fun) (c : Int) : Fun := putRows F [⟨0, orL c plain, ⟨2, 0, false, 1⟩⟩, ⟨0, orL c shifts, ⟨2, 0, false, 2⟩⟩, ⟨0, orL (bits .or .i64 c 8) plain, ⟨2, 1, false, 0⟩⟩, ⟨0, orL (bits .or .i64 c 8) shifts, ⟨2, 1, false, 0⟩⟩, ⟨0, [bits .or .i64 128 c], ⟨2, 0, false, 0⟩⟩]
structure Mk (w1 w2 : World) (g : Nat) (l : Int) (us : List Int) : Prop where
  lo : w1.heap.size ≤ g
  hi : g < w2.heap.size
  nums : Nums w2 g 0 (orL l us)
  bel : Below w1.heap.size w1 w2
theorem opS_drew {W w1 : World} {B mb : Nat} (h : (w1.cell? ⟨B, 0, none⟩ = some (.int .u8 2) ∧ w1.cell? ⟨B, 1, none⟩ = some (.int .u8 1) ∧ w1.cell? ⟨B, 2, none⟩ = some (.bool false) ∧ w1.cell? ⟨B, 3, none⟩ = some (.int .u8 0) ∧ W.grownBy w1 (some mb))) : (w1.drew.cell? ⟨B, 0, none⟩ = some (.int .u8 2) ∧ w1.drew.cell? ⟨B, 1, none⟩ = some (.int .u8 1) ∧ w1.drew.cell? ⟨B, 2, none⟩ = some (.bool false) ∧ w1.drew.cell? ⟨B, 3, none⟩ = some (.int .u8 0) ∧ W.grownBy w1.drew (some mb)) := ⟨h.1, h.2.1, h.2.2.1, h.2.2.2.1, ⟨h.2.2.2.2.os, h.2.2.2.2.tape, h.2.2.2.2.output, h.2.2.2.2.size, h.2.2.2.2.block⟩⟩
theorem opS_grown {W w1 w2 : World} {B mb : Nat} (hm : B ≠ mb) (h : (w1.cell? ⟨B, 0, none⟩ = some (.int .u8 2) ∧ w1.cell? ⟨B, 1, none⟩ = some (.int .u8 1) ∧ w1.cell? ⟨B, 2, none⟩ = some (.bool false) ∧ w1.cell? ⟨B, 3, none⟩ = some (.int .u8 0) ∧ W.grownBy w1 (some mb))) (hb : w1.grownBy w2 (some mb)) : (w2.cell? ⟨B, 0, none⟩ = some (.int .u8 2) ∧ w2.cell? ⟨B, 1, none⟩ = some (.int .u8 1) ∧ w2.cell? ⟨B, 2, none⟩ = some (.bool false) ∧ w2.cell? ⟨B, 3, none⟩ = some (.int .u8 0) ∧ W.grownBy w2 (some mb)) :=
  ⟨hb.cell h.1 (by simp; exact hm), hb.cell h.2.1 (by simp; exact hm), hb.cell h.2.2.1 (by simp; exact hm), hb.cell h.2.2.2.1 (by simp; exact hm), grownBy_trans' h.2.2.2.2 hb⟩
theorem opS_up {W w1 w2 : World} {B mb : Nat} (hm : B ≠ mb) (h : (w1.cell? ⟨B, 0, none⟩ = some (.int .u8 2) ∧ w1.cell? ⟨B, 1, none⟩ = some (.int .u8 1) ∧ w1.cell? ⟨B, 2, none⟩ = some (.bool false) ∧ w1.cell? ⟨B, 3, none⟩ = some (.int .u8 0) ∧ W.grownBy w1 (some mb))) (hb : Below w1.heap.size w1 w2) : (w2.cell? ⟨B, 0, none⟩ = some (.int .u8 2) ∧ w2.cell? ⟨B, 1, none⟩ = some (.int .u8 1) ∧ w2.cell? ⟨B, 2, none⟩ = some (.bool false) ∧ w2.cell? ⟨B, 3, none⟩ = some (.int .u8 0) ∧ W.grownBy w2 (some mb)) :=
  opS_grown hm h ⟨hb.os, hb.tape, hb.output, hb.size, fun k hk _ => hb.block k hk⟩
theorem opS_alloc {W w1 : World} {B mb : Nat} (hm : B ≠ mb) (h : (w1.cell? ⟨B, 0, none⟩ = some (.int .u8 2) ∧ w1.cell? ⟨B, 1, none⟩ = some (.int .u8 1) ∧ w1.cell? ⟨B, 2, none⟩ = some (.bool false) ∧ w1.cell? ⟨B, 3, none⟩ = some (.int .u8 0) ∧ W.grownBy w1 (some mb))) (o : Obj) : ((w1.alloc o).cell? ⟨B, 0, none⟩ = some (.int .u8 2) ∧ (w1.alloc o).cell? ⟨B, 1, none⟩ = some (.int .u8 1) ∧ (w1.alloc o).cell? ⟨B, 2, none⟩ = some (.bool false) ∧ (w1.alloc o).cell? ⟨B, 3, none⟩ = some (.int .u8 0) ∧ W.grownBy (w1.alloc o) (some mb)) := opS_up hm h ((Below.refl _ _).alloc (Nat.le_refl _) o)
theorem opc_held (W : World) (B mb p n : Nat) (l : Int) (us : List Int) (hl : us.length ≤ 100) (h0 : 0 < us.length) (hn : n = us.length) (hp : p < W.heap.size) (hpm : p ≠ mb) (hm : B ≠ mb) (hN : Nums W p 0 us) (w1 : World) (h : (w1.cell? ⟨B, 0, none⟩ = some (.int .u8 2) ∧ w1.cell? ⟨B, 1, none⟩ = some (.int .u8 1) ∧ w1.cell? ⟨B, 2, none⟩ = some (.bool false) ∧ w1.cell? ⟨B, 3, none⟩ = some (.int .u8 0) ∧ W.grownBy w1 (some mb))) :
    Calls Try.prog 55 #[.int .i64 l, .slice (some ⟨p, 0, none⟩) n n] w1 fun e w2 => ∃ g, e = .returned (.slice (some ⟨g, 0, none⟩) n n) ∧ Mk w1 w2 g l us ∧ (w2.cell? ⟨B, 0, none⟩ = some (.int .u8 2) ∧ w2.cell? ⟨B, 1, none⟩ = some (.int .u8 1) ∧ w2.cell? ⟨B, 2, none⟩ = some (.bool false) ∧ w2.cell? ⟨B, 3, none⟩ = some (.int .u8 0) ∧ W.grownBy w2 (some mb)) := by
  subst hn
  refine (opcodes_any l p 0 us w1 hl h0 (Nat.lt_of_lt_of_le hp h.2.2.2.2.size) (nums_kept hN h.2.2.2.2 (by simp; exact hpm))).mono ?_
  rintro e w2 ⟨g, rfl, hg, hg', hM, hb⟩
  exact ⟨g, rfl, ⟨hg, hg', hM, hb⟩, opS_up hm h hb⟩
theorem nums_one (w : World) (g : Nat) (x : Int) (t : TypeId) (h : w.heap[g]? = some (.cells #[.int .i64 x] t (0, 0))) : Nums w g 0 [x] := nums_lit w g [x] _ t h rfl
theorem rowAt_one {W : World} {rb g j : Nat} {c : Int} {f : FV} (c0 : W.cell? ⟨rb, j * 5, none⟩ = some (.slice (some ⟨g, 0, none⟩) 1 1)) (c1 : W.cell? ⟨rb, j * 5 + 1, none⟩ = some (.int .u8 f.dst))
    (c2 : W.cell? ⟨rb, j * 5 + 2, none⟩ = some (.int .u8 f.src)) (c3 : W.cell? ⟨rb, j * 5 + 3, none⟩ = some (.bool f.off)) (c4 : W.cell? ⟨rb, j * 5 + 4, none⟩ = some (.int .u8 f.imm))
    (hN : Nums W g 0 [c]) (hg : g < W.heap.size) (hw : (Lit.int .i64 c).wf = true) : RowAt W rb j ⟨g, [c], f⟩ :=
  ⟨c0, c1, c2, c3, c4, hN, hg, by simp, fun i => by
    by_cases h : i = 0
    · subst h; exact hw
    · rw [List.getD_eq_getElem?_getD, List.getElem?_eq_none (by simp; omega)]; rfl⟩
theorem below_new (w : World) (x : Obj) : Below w.heap.size w (w.alloc x) := (Below.refl _ _).alloc (Nat.le_refl _) x
theorem nums_new (w : World) (x : Int) : Nums (w.alloc (.cells #[.int .i64 x] 3)) w.heap.size 0 [x] := nums_one _ _ _ _ (heap_alloc_new w _)
set_option maxHeartbeats 2000000 in
theorem ops_enter (c : Int) (mb n B rb : Nat) (F : Fun) (W u0 v1 u1 v2 u2 v3 u3 v4 U : World) (g1 g2 g3 g4 g5 : Nat) (hn : n ≤ 5000) (hT : Tab u0 mb n F) (hm : B ≠ mb) (hrb : rb = U.heap.size) (hM1 : Mk u0 v1 g1 c plain) (e1 : Below v1.heap.size v1 u1) (hM2 : Mk u1 v2 g2 c shifts) (e2 : Below v2.heap.size v2 u2)
    (hM3 : Mk u2 v3 g3 (bits .or .i64 c 8) plain) (e3 : Below v3.heap.size v3 u3) (hM4 : Mk u3 v4 g4 (bits .or .i64 c 8) shifts) (e4 : Below v4.heap.size v4 U) (n5 : Nums U g5 0 [bits .or .i64 128 c]) (h5 : g5 < U.heap.size) (h5m : mb < g5)
    (hc : (Lit.int .i64 (bits .or .i64 128 c)).wf = true) (hS : (U.cell? ⟨B, 0, none⟩ = some (.int .u8 2) ∧ U.cell? ⟨B, 1, none⟩ = some (.int .u8 1) ∧ U.cell? ⟨B, 2, none⟩ = some (.bool false) ∧ U.cell? ⟨B, 3, none⟩ = some (.int .u8 0) ∧ W.grownBy U (some mb))) :
    Calls Try.prog 53 #[.map (some mb), .slice (some ⟨rb, 0, none⟩) 5 5] (U.alloc (.cells #[.slice (some ⟨g1, 0, none⟩) 9 9, .int .u8 2, .int .u8 0, .bool false, .int .u8 1, .slice (some ⟨g2, 0, none⟩) 3 3, .int .u8 2, .int .u8 0, .bool false, .int .u8 2, .slice (some ⟨g3, 0, none⟩) 9 9, .int .u8 2, .int .u8 1, .bool false, .int .u8 0, .slice (some ⟨g4, 0, none⟩) 3 3, .int .u8 2, .int .u8 1, .bool false, .int .u8 0, .slice (some ⟨g5, 0, none⟩) 1 1, .int .u8 2, .int .u8 0, .bool false, .int .u8 0] 60)) fun e w' => e = .returned (.tuple #[]) ∧ Tab w' mb (n + 500) (opsF F c) ∧ (w'.cell? ⟨B, 0, none⟩ = some (.int .u8 2) ∧ w'.cell? ⟨B, 1, none⟩ = some (.int .u8 1) ∧ w'.cell? ⟨B, 2, none⟩ = some (.bool false) ∧ w'.cell? ⟨B, 3, none⟩ = some (.int .u8 0) ∧ W.grownBy w' (some mb)) := by
  subst hrb
  have s1 := hM1.bel.size
  have s2 := e1.size
  have s3 := hM2.bel.size
  have s4 := e2.size
  have s5 := hM3.bel.size
  have s6 := e3.size
  have s7 := hM4.bel.size
  have s8 := e4.size
  have l1 := hM1.lo
  have l2 := hM2.lo
  have l3 := hM3.lo
  have l4 := hM4.lo
  have i1 := hM1.hi
  have i2 := hM2.hi
  have i3 := hM3.hi
  have i4 := hM4.hi
  have hmb := hT.lt
  have hTU : Tab U mb n F := (((((((hT.kept (grown_none hM1.bel) (by simp)).kept (grown_none e1) (by simp)).kept (grown_none hM2.bel) (by simp)).kept (grown_none e2) (by simp)).kept (grown_none hM3.bel) (by simp)).kept (grown_none e3) (by simp)).kept (grown_none hM4.bel) (by simp)).kept (grown_none e4) (by simp)
  have n1 := nums_up (nums_up (nums_up (nums_up (nums_up (nums_up (nums_up hM1.nums i1 e1) (by omega) hM2.bel) (by omega) e2) (by omega) hM3.bel) (by omega) e3) (by omega) hM4.bel) (by omega) e4
  have n2 := nums_up (nums_up (nums_up (nums_up (nums_up hM2.nums (by omega) e2) (by omega) hM3.bel) (by omega) e3) (by omega) hM4.bel) (by omega) e4
  have n3 := nums_up (nums_up (nums_up hM3.nums (by omega) e3) (by omega) hM4.bel) (by omega) e4
  have n4 := nums_up hM4.nums (by omega) e4
  refine (enter_any mb n U.heap.size 5 F [⟨g1, orL c plain, ⟨2, 0, false, 1⟩⟩, ⟨g2, orL c shifts, ⟨2, 0, false, 2⟩⟩, ⟨g3, orL (bits .or .i64 c 8) plain, ⟨2, 1, false, 0⟩⟩, ⟨g4, orL (bits .or .i64 c 8) shifts, ⟨2, 1, false, 0⟩⟩, ⟨g5, [bits .or .i64 128 c], ⟨2, 0, false, 0⟩⟩] _ (by simp; omega) (hTU.alloc _) (by omega) (fun j r hr => ?_)).mono ?_
  · match j, hr with
    | 0, hr => cases hr; exact ⟨rowAt_mk (n := 9) rfl (by simp) (by simp) (by simp) (by simp) (by simp) (nums_alloc n1 (by omega) _) (by simp; omega) (by decide), by simp only; omega⟩
    | 1, hr => cases hr; exact ⟨rowAt_mk (n := 3) rfl (by simp) (by simp) (by simp) (by simp) (by simp) (nums_alloc n2 (by omega) _) (by simp; omega) (by decide), by simp only; omega⟩
    | 2, hr => cases hr; exact ⟨rowAt_mk (n := 9) rfl (by simp) (by simp) (by simp) (by simp) (by simp) (nums_alloc n3 (by omega) _) (by simp; omega) (by decide), by simp only; omega⟩
    | 3, hr => cases hr; exact ⟨rowAt_mk (n := 3) rfl (by simp) (by simp) (by simp) (by simp) (by simp) (nums_alloc n4 (by omega) _) (by simp; omega) (by decide), by simp only; omega⟩
    | 4, hr => cases hr; exact ⟨rowAt_one (by simp) (by simp) (by simp) (by simp) (by simp) (nums_alloc n5 h5 _) (by simp; omega) hc, by simp only; omega⟩
    | k + 5, hr => cases hr
  · rintro e w5 ⟨rfl, hT6, hG⟩
    exact ⟨rfl, hT6, opS_grown hm (opS_alloc hm hS _) hG⟩
theorem ops_enter_0 (c : Int) (mb n B : Nat) (F : Fun) (W u0 v1 v2 v3 v4 : World) (g1 g2 g3 g4 : Nat) (hn : n ≤ 5000) (hT : Tab u0 mb n F) (hm : B ≠ mb) (hM1 : Mk ((u0.alloc (.cells #[.int .i64 (bits .or .i64 128 c)] 3)).drew) v1 g1 c plain) (hM2 : Mk v1 v2 g2 c shifts) (hM3 : Mk v2 v3 g3 (bits .or .i64 c 8) plain) (hM4 : Mk v3 v4 g4 (bits .or .i64 c 8) shifts)
    (hc : (Lit.int .i64 (bits .or .i64 128 c)).wf = true) (hS : (v4.cell? ⟨B, 0, none⟩ = some (.int .u8 2) ∧ v4.cell? ⟨B, 1, none⟩ = some (.int .u8 1) ∧ v4.cell? ⟨B, 2, none⟩ = some (.bool false) ∧ v4.cell? ⟨B, 3, none⟩ = some (.int .u8 0) ∧ W.grownBy v4 (some mb))) :
    Calls Try.prog 53 #[.map (some mb), .slice (some ⟨v4.heap.size, 0, none⟩) 5 5] (v4.alloc (.cells #[.slice (some ⟨g1, 0, none⟩) 9 9, .int .u8 2, .int .u8 0, .bool false, .int .u8 1, .slice (some ⟨g2, 0, none⟩) 3 3, .int .u8 2, .int .u8 0, .bool false, .int .u8 2, .slice (some ⟨g3, 0, none⟩) 9 9, .int .u8 2, .int .u8 1, .bool false, .int .u8 0, .slice (some ⟨g4, 0, none⟩) 3 3, .int .u8 2, .int .u8 1, .bool false, .int .u8 0, .slice (some ⟨u0.heap.size, 0, none⟩) 1 1, .int .u8 2, .int .u8 0, .bool false, .int .u8 0] 60)) fun e w' => e = .returned (.tuple #[]) ∧ Tab w' mb (n + 500) (opsF F c) ∧ (w'.cell? ⟨B, 0, none⟩ = some (.int .u8 2) ∧ w'.cell? ⟨B, 1, none⟩ = some (.int .u8 1) ∧ w'.cell? ⟨B, 2, none⟩ = some (.bool false) ∧ w'.cell? ⟨B, 3, none⟩ = some (.int .u8 0) ∧ W.grownBy w' (some mb)) := by
  have q0 := hT.lt
  have q1 : (u0.alloc (.cells #[.int .i64 (bits .or .i64 128 c)] 3)).heap.size ≤ v1.heap.size := hM1.bel.size
  have q2 := hM2.bel.size
  have q3 := hM3.bel.size
  have q4 := hM4.bel.size
  exact ops_enter c mb n B _ F W ((u0.alloc (.cells #[.int .i64 (bits .or .i64 128 c)] 3)).drew) v1 v1 v2 v2 v3 v3 v4 v4 g1 g2 g3 g4 u0.heap.size hn (hT.alloc _).drew hm (by simp) hM1 (Below.refl _ _) hM2 (Below.refl _ _) hM3 (Below.refl _ _) hM4 (Below.refl _ _) (nums_up (nums_up (nums_up (nums_up (show Nums (u0.alloc (.cells #[.int .i64 (bits .or .i64 128 c)] 3)).drew u0.heap.size 0 [bits .or .i64 128 c] from nums_new u0 _) (by show u0.heap.size < (u0.alloc (.cells #[.int .i64 (bits .or .i64 128 c)] 3)).heap.size; simp) hM1.bel) (by simp at * <;> omega) hM2.bel) (by simp at * <;> omega) hM3.bel) (by simp at * <;> omega) hM4.bel) (by simp at * <;> omega) (by simp at * <;> omega) hc hS
theorem ops_enter_1 (c : Int) (mb n B : Nat) (F : Fun) (W u0 v1 v2 v3 v4 : World) (g1 g2 g3 g4 : Nat) (hn : n ≤ 5000) (hT : Tab u0 mb n F) (hm : B ≠ mb) (hM1 : Mk u0 v1 g1 c plain) (hM2 : Mk (v1.alloc (.cells #[.int .i64 (bits .or .i64 128 c)] 3)) v2 g2 c shifts) (hM3 : Mk v2 v3 g3 (bits .or .i64 c 8) plain) (hM4 : Mk v3 v4 g4 (bits .or .i64 c 8) shifts)
    (hc : (Lit.int .i64 (bits .or .i64 128 c)).wf = true) (hS : (v4.cell? ⟨B, 0, none⟩ = some (.int .u8 2) ∧ v4.cell? ⟨B, 1, none⟩ = some (.int .u8 1) ∧ v4.cell? ⟨B, 2, none⟩ = some (.bool false) ∧ v4.cell? ⟨B, 3, none⟩ = some (.int .u8 0) ∧ W.grownBy v4 (some mb))) :
    Calls Try.prog 53 #[.map (some mb), .slice (some ⟨v4.heap.size, 0, none⟩) 5 5] (v4.alloc (.cells #[.slice (some ⟨g1, 0, none⟩) 9 9, .int .u8 2, .int .u8 0, .bool false, .int .u8 1, .slice (some ⟨g2, 0, none⟩) 3 3, .int .u8 2, .int .u8 0, .bool false, .int .u8 2, .slice (some ⟨g3, 0, none⟩) 9 9, .int .u8 2, .int .u8 1, .bool false, .int .u8 0, .slice (some ⟨g4, 0, none⟩) 3 3, .int .u8 2, .int .u8 1, .bool false, .int .u8 0, .slice (some ⟨v1.heap.size, 0, none⟩) 1 1, .int .u8 2, .int .u8 0, .bool false, .int .u8 0] 60)) fun e w' => e = .returned (.tuple #[]) ∧ Tab w' mb (n + 500) (opsF F c) ∧ (w'.cell? ⟨B, 0, none⟩ = some (.int .u8 2) ∧ w'.cell? ⟨B, 1, none⟩ = some (.int .u8 1) ∧ w'.cell? ⟨B, 2, none⟩ = some (.bool false) ∧ w'.cell? ⟨B, 3, none⟩ = some (.int .u8 0) ∧ W.grownBy w' (some mb)) := by
  have q0 := hT.lt
  have q1 := hM1.bel.size
  have q2 := hM2.bel.size
  have q3 := hM3.bel.size
  have q4 := hM4.bel.size
  exact ops_enter c mb n B _ F W u0 v1 (v1.alloc (.cells #[.int .i64 (bits .or .i64 128 c)] 3)) v2 v2 v3 v3 v4 v4 g1 g2 g3 g4 v1.heap.size hn hT hm (by simp) hM1 (below_new _ _) hM2 (Below.refl _ _) hM3 (Below.refl _ _) hM4 (Below.refl _ _) (nums_up (nums_up (nums_up (nums_new _ _) (by simp) hM2.bel) (by simp at * <;> omega) hM3.bel) (by simp at * <;> omega) hM4.bel) (by simp at * <;> omega) (by simp at * <;> omega) hc hS
theorem ops_enter_2 (c : Int) (mb n B : Nat) (F : Fun) (W u0 v1 v2 v3 v4 : World) (g1 g2 g3 g4 : Nat) (hn : n ≤ 5000) (hT : Tab u0 mb n F) (hm : B ≠ mb) (hM1 : Mk u0 v1 g1 c plain) (hM2 : Mk v1 v2 g2 c shifts) (hM3 : Mk (v2.alloc (.cells #[.int .i64 (bits .or .i64 128 c)] 3)) v3 g3 (bits .or .i64 c 8) plain) (hM4 : Mk v3 v4 g4 (bits .or .i64 c 8) shifts)
    (hc : (Lit.int .i64 (bits .or .i64 128 c)).wf = true) (hS : (v4.cell? ⟨B, 0, none⟩ = some (.int .u8 2) ∧ v4.cell? ⟨B, 1, none⟩ = some (.int .u8 1) ∧ v4.cell? ⟨B, 2, none⟩ = some (.bool false) ∧ v4.cell? ⟨B, 3, none⟩ = some (.int .u8 0) ∧ W.grownBy v4 (some mb))) :
    Calls Try.prog 53 #[.map (some mb), .slice (some ⟨v4.heap.size, 0, none⟩) 5 5] (v4.alloc (.cells #[.slice (some ⟨g1, 0, none⟩) 9 9, .int .u8 2, .int .u8 0, .bool false, .int .u8 1, .slice (some ⟨g2, 0, none⟩) 3 3, .int .u8 2, .int .u8 0, .bool false, .int .u8 2, .slice (some ⟨g3, 0, none⟩) 9 9, .int .u8 2, .int .u8 1, .bool false, .int .u8 0, .slice (some ⟨g4, 0, none⟩) 3 3, .int .u8 2, .int .u8 1, .bool false, .int .u8 0, .slice (some ⟨v2.heap.size, 0, none⟩) 1 1, .int .u8 2, .int .u8 0, .bool false, .int .u8 0] 60)) fun e w' => e = .returned (.tuple #[]) ∧ Tab w' mb (n + 500) (opsF F c) ∧ (w'.cell? ⟨B, 0, none⟩ = some (.int .u8 2) ∧ w'.cell? ⟨B, 1, none⟩ = some (.int .u8 1) ∧ w'.cell? ⟨B, 2, none⟩ = some (.bool false) ∧ w'.cell? ⟨B, 3, none⟩ = some (.int .u8 0) ∧ W.grownBy w' (some mb)) := by
  have q0 := hT.lt
  have q1 := hM1.bel.size
  have q2 := hM2.bel.size
  have q3 := hM3.bel.size
  have q4 := hM4.bel.size
  exact ops_enter c mb n B _ F W u0 v1 v1 v2 (v2.alloc (.cells #[.int .i64 (bits .or .i64 128 c)] 3)) v3 v3 v4 v4 g1 g2 g3 g4 v2.heap.size hn hT hm (by simp) hM1 (Below.refl _ _) hM2 (below_new _ _) hM3 (Below.refl _ _) hM4 (Below.refl _ _) (nums_up (nums_up (nums_new _ _) (by simp) hM3.bel) (by simp at * <;> omega) hM4.bel) (by simp at * <;> omega) (by simp at * <;> omega) hc hS
theorem ops_enter_3 (c : Int) (mb n B : Nat) (F : Fun) (W u0 v1 v2 v3 v4 : World) (g1 g2 g3 g4 : Nat) (hn : n ≤ 5000) (hT : Tab u0 mb n F) (hm : B ≠ mb) (hM1 : Mk u0 v1 g1 c plain) (hM2 : Mk v1 v2 g2 c shifts) (hM3 : Mk v2 v3 g3 (bits .or .i64 c 8) plain) (hM4 : Mk (v3.alloc (.cells #[.int .i64 (bits .or .i64 128 c)] 3)) v4 g4 (bits .or .i64 c 8) shifts)
    (hc : (Lit.int .i64 (bits .or .i64 128 c)).wf = true) (hS : (v4.cell? ⟨B, 0, none⟩ = some (.int .u8 2) ∧ v4.cell? ⟨B, 1, none⟩ = some (.int .u8 1) ∧ v4.cell? ⟨B, 2, none⟩ = some (.bool false) ∧ v4.cell? ⟨B, 3, none⟩ = some (.int .u8 0) ∧ W.grownBy v4 (some mb))) :
    Calls Try.prog 53 #[.map (some mb), .slice (some ⟨v4.heap.size, 0, none⟩) 5 5] (v4.alloc (.cells #[.slice (some ⟨g1, 0, none⟩) 9 9, .int .u8 2, .int .u8 0, .bool false, .int .u8 1, .slice (some ⟨g2, 0, none⟩) 3 3, .int .u8 2, .int .u8 0, .bool false, .int .u8 2, .slice (some ⟨g3, 0, none⟩) 9 9, .int .u8 2, .int .u8 1, .bool false, .int .u8 0, .slice (some ⟨g4, 0, none⟩) 3 3, .int .u8 2, .int .u8 1, .bool false, .int .u8 0, .slice (some ⟨v3.heap.size, 0, none⟩) 1 1, .int .u8 2, .int .u8 0, .bool false, .int .u8 0] 60)) fun e w' => e = .returned (.tuple #[]) ∧ Tab w' mb (n + 500) (opsF F c) ∧ (w'.cell? ⟨B, 0, none⟩ = some (.int .u8 2) ∧ w'.cell? ⟨B, 1, none⟩ = some (.int .u8 1) ∧ w'.cell? ⟨B, 2, none⟩ = some (.bool false) ∧ w'.cell? ⟨B, 3, none⟩ = some (.int .u8 0) ∧ W.grownBy w' (some mb)) := by
  have q0 := hT.lt
  have q1 := hM1.bel.size
  have q2 := hM2.bel.size
  have q3 := hM3.bel.size
  have q4 := hM4.bel.size
  exact ops_enter c mb n B _ F W u0 v1 v1 v2 v2 v3 (v3.alloc (.cells #[.int .i64 (bits .or .i64 128 c)] 3)) v4 v4 g1 g2 g3 g4 v3.heap.size hn hT hm (by simp) hM1 (Below.refl _ _) hM2 (Below.refl _ _) hM3 (below_new _ _) hM4 (Below.refl _ _) (nums_up (nums_new _ _) (by simp) hM4.bel) (by simp at * <;> omega) (by simp at * <;> omega) hc hS
theorem ops_enter_4 (c : Int) (mb n B : Nat) (F : Fun) (W u0 v1 v2 v3 v4 : World) (g1 g2 g3 g4 : Nat) (hn : n ≤ 5000) (hT : Tab u0 mb n F) (hm : B ≠ mb) (hM1 : Mk u0 v1 g1 c plain) (hM2 : Mk v1 v2 g2 c shifts) (hM3 : Mk v2 v3 g3 (bits .or .i64 c 8) plain) (hM4 : Mk v3 v4 g4 (bits .or .i64 c 8) shifts)
    (hc : (Lit.int .i64 (bits .or .i64 128 c)).wf = true) (hS : (v4.cell? ⟨B, 0, none⟩ = some (.int .u8 2) ∧ v4.cell? ⟨B, 1, none⟩ = some (.int .u8 1) ∧ v4.cell? ⟨B, 2, none⟩ = some (.bool false) ∧ v4.cell? ⟨B, 3, none⟩ = some (.int .u8 0) ∧ W.grownBy v4 (some mb))) :
    Calls Try.prog 53 #[.map (some mb), .slice (some ⟨v4.heap.size + 1, 0, none⟩) 5 5] ((v4.alloc (.cells #[.int .i64 (bits .or .i64 128 c)] 3)).alloc (.cells #[.slice (some ⟨g1, 0, none⟩) 9 9, .int .u8 2, .int .u8 0, .bool false, .int .u8 1, .slice (some ⟨g2, 0, none⟩) 3 3, .int .u8 2, .int .u8 0, .bool false, .int .u8 2, .slice (some ⟨g3, 0, none⟩) 9 9, .int .u8 2, .int .u8 1, .bool false, .int .u8 0, .slice (some ⟨g4, 0, none⟩) 3 3, .int .u8 2, .int .u8 1, .bool false, .int .u8 0, .slice (some ⟨v4.heap.size, 0, none⟩) 1 1, .int .u8 2, .int .u8 0, .bool false, .int .u8 0] 60)) fun e w' => e = .returned (.tuple #[]) ∧ Tab w' mb (n + 500) (opsF F c) ∧ (w'.cell? ⟨B, 0, none⟩ = some (.int .u8 2) ∧ w'.cell? ⟨B, 1, none⟩ = some (.int .u8 1) ∧ w'.cell? ⟨B, 2, none⟩ = some (.bool false) ∧ w'.cell? ⟨B, 3, none⟩ = some (.int .u8 0) ∧ W.grownBy w' (some mb)) := by
  have q0 := hT.lt
  have q1 := hM1.bel.size
  have q2 := hM2.bel.size
  have q3 := hM3.bel.size
  have q4 := hM4.bel.size
  exact ops_enter c mb n B _ F W u0 v1 v1 v2 v2 v3 v3 v4 (v4.alloc (.cells #[.int .i64 (bits .or .i64 128 c)] 3)) g1 g2 g3 g4 v4.heap.size hn hT hm (by simp) hM1 (Below.refl _ _) hM2 (Below.refl _ _) hM3 (Below.refl _ _) hM4 (below_new _ _) (nums_new _ _) (by simp at * <;> omega) (by simp at * <;> omega) hc (opS_alloc hm hS _)
set_option maxHeartbeats 4000000 in
theorem operations_4 (mb n : Nat) (F : Fun) (w : World) (hn : n ≤ 5000) (hT : Tab w mb n F) :
    Calls Try.prog 56 #[.map (some mb), .int .i64 4] w fun e w' => e = .returned (.tuple #[]) ∧ Tab w' mb (n + 500) (opsF F 4) ∧ w.grownBy w' (some mb) := by
  have HT := hid hT; clear hT
  have hmb := HT.out.lt
  go_enter Try.func56, Try.ntmps56
  go_wp2_with fail
  generalize hW0 : w.alloc (.cells #[.int .i64 0, .int .i64 16, .int .i64 32, .int .i64 48, .int .i64 64, .int .i64 80, .int .i64 144, .int .i64 160, .int .i64 176] 3) = W0
  have hz0 : w.heap.size + 1 = W0.heap.size := by rw [← hW0]; simp
  have hm0 : Nums W0 w.heap.size 0 plain := by rw [← hW0]; exact nums_lit _ _ _ _ _ (heap_alloc_new w _) rfl
  rw [hz0]
  generalize hW1 : W0.alloc (.cells #[.int .i64 96, .int .i64 112, .int .i64 192] 3) = W1
  have hz1 : W0.heap.size + 1 = W1.heap.size := by rw [← hW1]; simp
  have hm1 : Nums W1 W0.heap.size 0 shifts := by rw [← hW1]; exact nums_lit _ _ _ _ _ (heap_alloc_new W0 _) rfl
  rw [hz1]
  generalize hW : W1.alloc (.cells #[.int .u8 2, .int .u8 1, .bool false, .int .u8 0] 58) = W
  have hn0 : Hid (Nums W w.heap.size 0 plain) := hid (by rw [← hW, ← hW1]; exact nums_alloc (nums_alloc hm0 (by omega) _) (by simp; omega) _)
  have hn1 : Hid (Nums W W0.heap.size 0 shifts) := hid (by rw [← hW]; exact nums_alloc hm1 (by omega) _)
  have hT0 : Hid (Tab W mb n F) := hid (by rw [← hW, ← hW1, ← hW0]; exact ((HT.out.alloc _).alloc _).alloc _)
  have hg0 : Hid (w.grownBy W (some mb)) := hid (by rw [← hW, ← hW1, ← hW0]; exact grownBy_trans' (World.grownBy_alloc _ _ _) (grownBy_trans' (World.grownBy_alloc _ _ _) (World.grownBy_alloc _ _ _)))
  have hs : W1.heap.size < W.heap.size := by rw [← hW]; simp
  have x0 : W.cell? ⟨W1.heap.size, 0, none⟩ = some (.int .u8 2) := by rw [← hW]; simp
  have x1 : W.cell? ⟨W1.heap.size, 1, none⟩ = some (.int .u8 1) := by rw [← hW]; simp
  have x2 : W.cell? ⟨W1.heap.size, 2, none⟩ = some (.bool false) := by rw [← hW]; simp
  have x3 : W.cell? ⟨W1.heap.size, 3, none⟩ = some (.int .u8 0) := by rw [← hW]; simp
  have hBW : W.grownBy W (some mb) := World.grownBy.refl _ _
  have hS0 := And.intro x0 (And.intro x1 (And.intro x2 (And.intro x3 hBW)))
  have hb0 : w.heap.size < W.heap.size := by omega
  have hb1 : W0.heap.size < W.heap.size := by omega
  have m0 : w.heap.size ≠ mb := by omega
  have hbit : (Lit.int .i64 (bits .or .i64 128 4)).wf = true := by decide
  have m1 : W0.heap.size ≠ mb := by omega
  have m2 : W1.heap.size ≠ mb := by omega
  generalize W1.heap.size = B at *
  generalize W0.heap.size = p1 at *
  clear hW hW0 hW1 x0 x1 x2 x3 hBW hz0 hz1 hm0 hm1 hs
  go_region_held3 (fun w' => w'.cell? ⟨B, 0, none⟩ = some (.int .u8 2) ∧ w'.cell? ⟨B, 1, none⟩ = some (.int .u8 1) ∧ w'.cell? ⟨B, 2, none⟩ = some (.bool false) ∧ w'.cell? ⟨B, 3, none⟩ = some (.int .u8 0) ∧ W.grownBy w' (some mb))
    (first | assumption | exact opS_drew ‹_› | exact opS_alloc m2 ‹_› _)
    (first
      | (go_at_call 55; (with_reducible refine (opc_held W B mb w.heap.size 9 4 plain (by decide) (by decide) rfl hb0 m0 m2 hn0.out _ ‹_›).mono ?_); rintro e v1 ⟨g1, rfl, hM1, hS1⟩)
      | (go_at_call 55; (with_reducible refine (opc_held W B mb p1 3 4 shifts (by decide) (by decide) rfl hb1 m1 m2 hn1.out _ ‹_›).mono ?_); rintro e v2 ⟨g2, rfl, hM2, hS2⟩)
      | (go_at_call 55; (with_reducible refine (opc_held W B mb w.heap.size 9 _ plain (by decide) (by decide) rfl hb0 m0 m2 hn0.out _ ‹_›).mono ?_); rintro e v3 ⟨g3, rfl, hM3, hS3⟩)
      | (go_at_call 55; (with_reducible refine (opc_held W B mb p1 3 _ shifts (by decide) (by decide) rfl hb1 m1 m2 hn1.out _ ‹_›).mono ?_); rintro e v4 ⟨g4, rfl, hM4, hS4⟩)
      | (go_at_call 53; (with_reducible refine (ops_enter_0 4 mb n B F W W v1 v2 v3 v4 g1 g2 g3 g4 hn hT0.out m2 hM1 hM2 hM3 hM4 hbit hS4).mono ?_); rintro e w' ⟨rfl, hT6, hS6⟩)
      | (go_at_call 53; (with_reducible refine (ops_enter_1 4 mb n B F W W.drew v1 v2 v3 v4 g1 g2 g3 g4 hn hT0.out.drew m2 hM1 hM2 hM3 hM4 hbit hS4).mono ?_); rintro e w' ⟨rfl, hT6, hS6⟩)
      | (go_at_call 53; (with_reducible refine (ops_enter_2 4 mb n B F W W.drew v1 v2 v3 v4 g1 g2 g3 g4 hn hT0.out.drew m2 hM1 hM2 hM3 hM4 hbit hS4).mono ?_); rintro e w' ⟨rfl, hT6, hS6⟩)
      | (go_at_call 53; (with_reducible refine (ops_enter_3 4 mb n B F W W.drew v1 v2 v3 v4 g1 g2 g3 g4 hn hT0.out.drew m2 hM1 hM2 hM3 hM4 hbit hS4).mono ?_); rintro e w' ⟨rfl, hT6, hS6⟩)
      | (go_at_call 53; (with_reducible refine (ops_enter_4 4 mb n B F W W.drew v1 v2 v3 v4 g1 g2 g3 g4 hn hT0.out.drew m2 hM1 hM2 hM3 hM4 hbit hS4).mono ?_); rintro e w' ⟨rfl, hT6, hS6⟩))
  all_goals
    have HT6 := hid hT6
    have HS6 := hid hS6.2.2.2.2
    clear hT6 hS6
    go_wp2_with fail
    go_end0
    exact ⟨rfl, HT6.out, grownBy_trans' hg0.out HS6.out⟩
set_option maxHeartbeats 4000000 in
theorem operations_7 (mb n : Nat) (F : Fun) (w : World) (hn : n ≤ 5000) (hT : Tab w mb n F) :
    Calls Try.prog 56 #[.map (some mb), .int .i64 7] w fun e w' => e = .returned (.tuple #[]) ∧ Tab w' mb (n + 500) (opsF F 7) ∧ w.grownBy w' (some mb) := by
  have HT := hid hT; clear hT
  have hmb := HT.out.lt
  go_enter Try.func56, Try.ntmps56
  go_wp2_with fail
  generalize hW0 : w.alloc (.cells #[.int .i64 0, .int .i64 16, .int .i64 32, .int .i64 48, .int .i64 64, .int .i64 80, .int .i64 144, .int .i64 160, .int .i64 176] 3) = W0
  have hz0 : w.heap.size + 1 = W0.heap.size := by rw [← hW0]; simp
  have hm0 : Nums W0 w.heap.size 0 plain := by rw [← hW0]; exact nums_lit _ _ _ _ _ (heap_alloc_new w _) rfl
  rw [hz0]
  generalize hW1 : W0.alloc (.cells #[.int .i64 96, .int .i64 112, .int .i64 192] 3) = W1
  have hz1 : W0.heap.size + 1 = W1.heap.size := by rw [← hW1]; simp
  have hm1 : Nums W1 W0.heap.size 0 shifts := by rw [← hW1]; exact nums_lit _ _ _ _ _ (heap_alloc_new W0 _) rfl
  rw [hz1]
  generalize hW : W1.alloc (.cells #[.int .u8 2, .int .u8 1, .bool false, .int .u8 0] 58) = W
  have hn0 : Hid (Nums W w.heap.size 0 plain) := hid (by rw [← hW, ← hW1]; exact nums_alloc (nums_alloc hm0 (by omega) _) (by simp; omega) _)
  have hn1 : Hid (Nums W W0.heap.size 0 shifts) := hid (by rw [← hW]; exact nums_alloc hm1 (by omega) _)
  have hT0 : Hid (Tab W mb n F) := hid (by rw [← hW, ← hW1, ← hW0]; exact ((HT.out.alloc _).alloc _).alloc _)
  have hg0 : Hid (w.grownBy W (some mb)) := hid (by rw [← hW, ← hW1, ← hW0]; exact grownBy_trans' (World.grownBy_alloc _ _ _) (grownBy_trans' (World.grownBy_alloc _ _ _) (World.grownBy_alloc _ _ _)))
  have hs : W1.heap.size < W.heap.size := by rw [← hW]; simp
  have x0 : W.cell? ⟨W1.heap.size, 0, none⟩ = some (.int .u8 2) := by rw [← hW]; simp
  have x1 : W.cell? ⟨W1.heap.size, 1, none⟩ = some (.int .u8 1) := by rw [← hW]; simp
  have x2 : W.cell? ⟨W1.heap.size, 2, none⟩ = some (.bool false) := by rw [← hW]; simp
  have x3 : W.cell? ⟨W1.heap.size, 3, none⟩ = some (.int .u8 0) := by rw [← hW]; simp
  have hBW : W.grownBy W (some mb) := World.grownBy.refl _ _
  have hS0 := And.intro x0 (And.intro x1 (And.intro x2 (And.intro x3 hBW)))
  have hb0 : w.heap.size < W.heap.size := by omega
  have hb1 : W0.heap.size < W.heap.size := by omega
  have m0 : w.heap.size ≠ mb := by omega
  have hbit : (Lit.int .i64 (bits .or .i64 128 7)).wf = true := by decide
  have m1 : W0.heap.size ≠ mb := by omega
  have m2 : W1.heap.size ≠ mb := by omega
  generalize W1.heap.size = B at *
  generalize W0.heap.size = p1 at *
  clear hW hW0 hW1 x0 x1 x2 x3 hBW hz0 hz1 hm0 hm1 hs
  go_region_held3 (fun w' => w'.cell? ⟨B, 0, none⟩ = some (.int .u8 2) ∧ w'.cell? ⟨B, 1, none⟩ = some (.int .u8 1) ∧ w'.cell? ⟨B, 2, none⟩ = some (.bool false) ∧ w'.cell? ⟨B, 3, none⟩ = some (.int .u8 0) ∧ W.grownBy w' (some mb))
    (first | assumption | exact opS_drew ‹_› | exact opS_alloc m2 ‹_› _)
    (first
      | (go_at_call 55; (with_reducible refine (opc_held W B mb w.heap.size 9 7 plain (by decide) (by decide) rfl hb0 m0 m2 hn0.out _ ‹_›).mono ?_); rintro e v1 ⟨g1, rfl, hM1, hS1⟩)
      | (go_at_call 55; (with_reducible refine (opc_held W B mb p1 3 7 shifts (by decide) (by decide) rfl hb1 m1 m2 hn1.out _ ‹_›).mono ?_); rintro e v2 ⟨g2, rfl, hM2, hS2⟩)
      | (go_at_call 55; (with_reducible refine (opc_held W B mb w.heap.size 9 _ plain (by decide) (by decide) rfl hb0 m0 m2 hn0.out _ ‹_›).mono ?_); rintro e v3 ⟨g3, rfl, hM3, hS3⟩)
      | (go_at_call 55; (with_reducible refine (opc_held W B mb p1 3 _ shifts (by decide) (by decide) rfl hb1 m1 m2 hn1.out _ ‹_›).mono ?_); rintro e v4 ⟨g4, rfl, hM4, hS4⟩)
      | (go_at_call 53; (with_reducible refine (ops_enter_0 7 mb n B F W W v1 v2 v3 v4 g1 g2 g3 g4 hn hT0.out m2 hM1 hM2 hM3 hM4 hbit hS4).mono ?_); rintro e w' ⟨rfl, hT6, hS6⟩)
      | (go_at_call 53; (with_reducible refine (ops_enter_1 7 mb n B F W W.drew v1 v2 v3 v4 g1 g2 g3 g4 hn hT0.out.drew m2 hM1 hM2 hM3 hM4 hbit hS4).mono ?_); rintro e w' ⟨rfl, hT6, hS6⟩)
      | (go_at_call 53; (with_reducible refine (ops_enter_2 7 mb n B F W W.drew v1 v2 v3 v4 g1 g2 g3 g4 hn hT0.out.drew m2 hM1 hM2 hM3 hM4 hbit hS4).mono ?_); rintro e w' ⟨rfl, hT6, hS6⟩)
      | (go_at_call 53; (with_reducible refine (ops_enter_3 7 mb n B F W W.drew v1 v2 v3 v4 g1 g2 g3 g4 hn hT0.out.drew m2 hM1 hM2 hM3 hM4 hbit hS4).mono ?_); rintro e w' ⟨rfl, hT6, hS6⟩)
      | (go_at_call 53; (with_reducible refine (ops_enter_4 7 mb n B F W W.drew v1 v2 v3 v4 g1 g2 g3 g4 hn hT0.out.drew m2 hM1 hM2 hM3 hM4 hbit hS4).mono ?_); rintro e w' ⟨rfl, hT6, hS6⟩))
  all_goals
    have HT6 := hid hT6
    have HS6 := hid hS6.2.2.2.2
    clear hT6 hS6
    go_wp2_with fail
    go_end0
    exact ⟨rfl, HT6.out, grownBy_trans' hg0.out HS6.out⟩
end Go.Proofs.Ytpknnmnknaaccaa.Insn
