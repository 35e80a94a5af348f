/-
  Contracts of the program's instructions: length, bytesOf.
-/
import Derived.Test.YtccjfnkneiggcaaInsD
import Derived.Test.YtccjfnkneiggcaaPutA
import Derived.Test.YtccjfnkneiggcaaChkEq
namespace Go.Proofs.Ytccjfnkneiggcaa.Insn
open Go.RowKit Go.Proofs.Ytccjfnkneiggcaa.Num Go.Proofs.Ytccjfnkneiggcaa.ListB Go.Proofs.Ytccjfnkneiggcaa.Bytes
theorem below_ofB {w W w' : World} {mb : Nat} (h : Below w.heap.size w W) (hg : W.grownBy w' (some mb)) (hm : w.heap.size ≤ mb) : Below w.heap.size w w' := h.grown hg h.size (fun k hk => by cases hk; exact hm)
theorem length_any (op : Int) (w : World) :
    Calls Try.prog 47 #[.int .i64 op] w fun e w' => e = .returned (.int .i64 (lenI op : Nat)) ∧ w = w' := by
  by_cases h : op = 24
  · subst h
    go_enter Try.func47, Try.ntmps47
    go_wp2
    go_ret
    exact ⟨rfl, rfl⟩
  · have e : (op == 24) = false := by simp [h]
    rw [show lenI op = 8 by unfold lenI; rw [if_neg h]]
    clear h
    go_enter Try.func47, Try.ntmps47
    go_wp2
    go_ret
    exact ⟨rfl, rfl⟩
theorem join_all : ((List.range 11).all fun s => (List.range 11).all fun d => decide (bits .or .i64 (wrap64 ((s : Int) * 16)) (d : Int) = (d : Int) + 16 * (s : Int))) = true := by kernel_rfl
theorem join_sd (s d : Int) (s0 : 0 ≤ s) (s1 : s ≤ 10) (d0 : 0 ≤ d) (d1 : d ≤ 10) : bits .or .i64 (s * 16) d = d + 16 * s := by
  have a := List.all_eq_true.1 (List.all_eq_true.1 join_all s.toNat (List.mem_range.2 (by omega))) d.toNat (List.mem_range.2 (by omega))
  rw [decide_eq_true_eq, Int.toNat_of_nonneg s0, Int.toNat_of_nonneg d0] at a
  rw [← a]
  have e : wrap64 (s * 16) = s * 16 := by unfold wrap64; omega
  rw [e]
def bytes8 (x : In) : List Int := putK (putK (((List.replicate 8 (0 : Int)).set 0 x.op).set 1 (x.d + 16 * x.s)) 2 (unsig x.o) 2) 4 (unsig x.m) 4
def bytes16 (x : In) : List Int := putK (putK (putK (((List.replicate 16 (0 : Int)).set 0 x.op).set 1 (x.d + 16 * x.s)) 2 (unsig x.o) 2) 4 (unsig x.m) 4) 12 (unsig x.m / 4294967296) 4
theorem bytes8_eq (x : In) (h : x.op ≠ 24) : bytes8 x = encOne x := by
  unfold bytes8 encOne
  rw [if_neg h, laidL_2, laidL_4]
  generalize unsig x.m = v
  generalize unsig x.o = u
  simp [putK, List.replicate]
theorem bytes16_eq (x : In) (h : x.op = 24) : bytes16 x = encOne x := by
  unfold bytes16 encOne
  rw [if_pos h, laidL_2, laidL_4, laidL_8d]
  generalize unsig x.m = v
  generalize unsig x.o = u
  simp [putK, List.replicate, Nat.div_div_eq_div_mul]
theorem made_facts {W w1 : World} {X n : Nat} {op d s o m : Int} (hn : 2 ≤ n) (hown : w1.ownsRow W.heap.size 5 1 (.slice (some ⟨W.heap.size, 0, none⟩) n n) n (madeCells (Value.int .u8 0).cells (n * 1)).toList) (hg : W.grownBy w1 none)
    (x0 : W.cell? ⟨X, 0, none⟩ = some (.int .i64 op)) (x1 : W.cell? ⟨X, 1, none⟩ = some (.int .i64 d)) (x2 : W.cell? ⟨X, 2, none⟩ = some (.int .i64 s)) (x3 : W.cell? ⟨X, 3, none⟩ = some (.int .i64 o)) (x4 : W.cell? ⟨X, 4, none⟩ = some (.int .i64 m)) :
    w1.cell? ⟨X, 0, none⟩ = some (.int .i64 op) ∧ w1.cell? ⟨X, 1, none⟩ = some (.int .i64 d) ∧ w1.cell? ⟨X, 2, none⟩ = some (.int .i64 s) ∧ w1.cell? ⟨X, 3, none⟩ = some (.int .i64 o) ∧ w1.cell? ⟨X, 4, none⟩ = some (.int .i64 m) ∧
    w1.cell? ⟨W.heap.size, 0, none⟩ = some (.int .u8 0) ∧ w1.cell? ⟨W.heap.size, 1, none⟩ = some (.int .u8 0) ∧ w1.frozen? ⟨W.heap.size, 0, none⟩ = false ∧ w1.frozen? ⟨W.heap.size, 1, none⟩ = false ∧
    Hid (∀ a b : Int, ((w1.setCell ⟨W.heap.size, 0, none⟩ (.int .u8 a)).setCell ⟨W.heap.size, 1, none⟩ (.int .u8 b)).ownsRow W.heap.size 5 1 (.slice (some ⟨W.heap.size, 0, none⟩) n n) n (V (((List.replicate n (0 : Int)).set 0 a).set 1 b))) ∧
    Hid (∀ a b : Int, W.grownBy ((w1.setCell ⟨W.heap.size, 0, none⟩ (.int .u8 a)).setCell ⟨W.heap.size, 1, none⟩ (.int .u8 b)) (some W.heap.size)) := by
  have hV : w1.ownsRow W.heap.size 5 1 (.slice (some ⟨W.heap.size, 0, none⟩) n n) n (V (List.replicate n 0)) := by
    unfold V; rw [List.map_replicate]
    rw [show (Value.int IntKind.u8 0).cells = #[.int .u8 0] from rfl, toList_madeCells_one, Nat.mul_one] at hown
    exact hown
  have up : ∀ {i : Nat} {v : Value}, W.cell? ⟨X, i, none⟩ = some v → w1.cell? ⟨X, i, none⟩ = some v := fun h => hg.cell h (by simp)
  have cz : ∀ i, i < n → w1.cell? ⟨W.heap.size, i, none⟩ = some (.int .u8 0) := fun i hi => by
    rw [hV.cellAt i (by omega), V_get _ _ (by simpa using hi)]
    simp [List.getD_eq_getElem?_getD, hi]
  refine ⟨up x0, up x1, up x2, up x3, up x4, cz 0 (by omega), cz 1 (by omega), hV.frozenAt 0, hV.frozenAt 1, hid fun a b => ?_, hid fun a b => ?_⟩
  · have s0 := (hV.stored 0 (.int .u8 a)).1
    rw [V_set] at s0
    have s1 := (s0.stored 1 (.int .u8 b)).1
    rw [V_set] at s1
    exact s1
  · have s0 := hV.stored 0 (.int .u8 a)
    have s1 := s0.1.stored 1 (.int .u8 b)
    exact grownBy_trans' (⟨hg.os, hg.tape, hg.output, hg.size, fun k hk _ => hg.block k hk (by simp)⟩ : W.grownBy w1 (some W.heap.size)) (grownBy_trans' s0.2 s1.2)
set_option maxHeartbeats 2000000 in
theorem bytesOf_8 (x : In) (w : World) (hf : Fine x) (h24 : x.op ≠ 24) :
    Calls Try.prog 43 #[insnV x.op x.d x.s x.o x.m] w (RowPost 5 w 8 (encOne x)) := by
  have HE := hid (bytes8_eq x h24)
  have b24 : (x.op == 24) = false := by simp [h24]
  have hL : Hid (lenI x.op = 8) := hid (by unfold lenI; rw [if_neg h24])
  obtain ⟨o0, o1⟩ := hf.op
  obtain ⟨d0, d1⟩ := hf.d
  obtain ⟨s0, s1⟩ := hf.s
  have HJ := hid (join_sd x.s x.d s0 s1 d0 d1)
  obtain ⟨i0, hi, hz0, hz1, hz2⟩ := info_parts info8
  unfold RowPost
  rw [← HE.out]
  unfold bytes8 insnV
  have uo := unsig_of x.o
  have um := unsig_of x.m
  have hm := hf.m
  clear hf h24 HE hm
  obtain ⟨op, d, s, o, m⟩ := x
  simp only at o0 o1 d0 d1 s0 s1 HJ b24 hL uo um ⊢
  have UO := hid uo
  have UM := hid um
  clear uo um
  go_enter Try.func43, Try.ntmps43
  go_wp2_with fail
  refine (length_any _ _).mono ?_
  rintro e w' ⟨rfl, rfl⟩
  rw [hL.out]
  have hsz : w.heap.size < (w.alloc (.cells #[.int .i64 op, .int .i64 d, .int .i64 s, .int .i64 o, .int .i64 m] 23)).heap.size := by simp
  have x0 : (w.alloc (.cells #[.int .i64 op, .int .i64 d, .int .i64 s, .int .i64 o, .int .i64 m] 23)).cell? ⟨w.heap.size, 0, none⟩ = some (.int .i64 op) := by simp
  have x1 : (w.alloc (.cells #[.int .i64 op, .int .i64 d, .int .i64 s, .int .i64 o, .int .i64 m] 23)).cell? ⟨w.heap.size, 1, none⟩ = some (.int .i64 d) := by simp
  have x2 : (w.alloc (.cells #[.int .i64 op, .int .i64 d, .int .i64 s, .int .i64 o, .int .i64 m] 23)).cell? ⟨w.heap.size, 2, none⟩ = some (.int .i64 s) := by simp
  have x3 : (w.alloc (.cells #[.int .i64 op, .int .i64 d, .int .i64 s, .int .i64 o, .int .i64 m] 23)).cell? ⟨w.heap.size, 3, none⟩ = some (.int .i64 o) := by simp
  have x4 : (w.alloc (.cells #[.int .i64 op, .int .i64 d, .int .i64 s, .int .i64 o, .int .i64 m] 23)).cell? ⟨w.heap.size, 4, none⟩ = some (.int .i64 m) := by simp
  have HB0 := hid (below_new w (.cells #[.int .i64 op, .int .i64 d, .int .i64 s, .int .i64 o, .int .i64 m] 23))
  generalize w.alloc (.cells #[.int .i64 op, .int .i64 d, .int .i64 s, .int .i64 o, .int .i64 m] 23) = W at *
  have HX := hid (And.intro x0 (And.intro x3 x4))
  go_wp2_with (at_make; refine wpList_make_full _ rfl _ _ 33 rfl W.heap.size 5 i0 (.int .u8 0) 1 Try.underlying33 hi hz0 hz1 .i64 .i64 _ _ 8 rfl rfl rfl rfl (by rw [hz2]; omega) (by unfold maxLen; omega) (Nat.le_refl _) ?_; intro w1 hown1 hgrow1; obtain ⟨y0, y1, y2, y3, y4, z0, z1, f0, f1, HO, HG⟩ := made_facts (by omega) hown1 hgrow1 x0 x1 x2 x3 x4; clear hown1 hgrow1 x0 x1 x2 x3 x4)
  rw [show bits .or .i64 (s * 16) d % 256 = d + 16 * s by rw [HJ.out]; omega, show IntKind.u64.wrap o = ((unsig o : Nat) : Int) by rw [UO.out, IntKind.wrap_u64]]
  have own2 := HO.out op (d + 16 * s)
  have hg2 := HG.out op (d + 16 * s)
  clear HO HG y0 y1 y2 y3 y4 z0 z1 f0 f1
  generalize (w1.setCell ⟨W.heap.size, 0, none⟩ (.int .u8 op)).setCell ⟨W.heap.size, 1, none⟩ (.int .u8 (d + 16 * s)) = w2 at own2 hg2 ⊢
  have HG2 := hid hg2
  have HO2 := hid own2
  clear hg2 own2
  refine (put_yes W.heap.size W.heap.size 8 8 8 8 _ 2 2 (unsig o : Nat) w2 (by omega) (by simp) (by omega) HO2.out rfl (by omega)).mono ?_
  rintro e w3 ⟨rfl, own3, hg3⟩
  rw [show (2 : Int).toNat = 2 from rfl, Int.toNat_natCast] at own3
  have HO3 := hid own3
  have HG3 := hid (grownBy_trans' HG2.out hg3)
  clear own3 hg3
  have y4 := HG3.out.cell HX.out.2.2 (by simp; omega)
  go_wp2_with fail
  rw [show IntKind.u64.wrap m = ((unsig m : Nat) : Int) by rw [UM.out, IntKind.wrap_u64]]
  refine (put_yes W.heap.size W.heap.size 8 8 8 8 _ 4 4 (unsig m : Nat) w3 (by omega) (by rw [putK_length]; simp) (by omega) HO3.out rfl (by omega)).mono ?_
  rintro e w4 ⟨rfl, own4, hg4⟩
  rw [show (4 : Int).toNat = 4 from rfl, Int.toNat_natCast] at own4
  have HO4 := hid own4
  have HG4 := hid (grownBy_trans' HG3.out hg4)
  clear own4 hg4 y4
  have y0 := HG4.out.cell HX.out.1 (by simp; omega)
  go_wp2_with fail
  go_ret
  exact ⟨W.heap.size, 8, rfl, ⟨HO4.out.1, HO4.out.2.imp id (fun ⟨g, c, cu, a, b, r⟩ => ⟨g, c, cu, a, by omega, r⟩)⟩, below_ofB HB0.out HG4.out (by omega)⟩
set_option maxHeartbeats 2000000 in
theorem bytesOf_16 (x : In) (w : World) (hf : Fine x) (h24 : x.op = 24) :
    Calls Try.prog 43 #[insnV x.op x.d x.s x.o x.m] w (RowPost 5 w 16 (encOne x)) := by
  have HE := hid (bytes16_eq x h24)
  have b24 : (x.op == 24) = true := by simp [h24]
  have hL : Hid (lenI x.op = 16) := hid (by unfold lenI; rw [if_pos h24])
  obtain ⟨o0, o1⟩ := hf.op
  obtain ⟨d0, d1⟩ := hf.d
  obtain ⟨s0, s1⟩ := hf.s
  have HJ := hid (join_sd x.s x.d s0 s1 d0 d1)
  obtain ⟨i0, hi, hz0, hz1, hz2⟩ := info_parts info8
  unfold RowPost
  rw [← HE.out]
  unfold bytes16 insnV
  have uo := unsig_of x.o
  have um := unsig_of x.m
  have hm := hf.m
  clear hf h24 HE hm
  obtain ⟨op, d, s, o, m⟩ := x
  simp only at o0 o1 d0 d1 s0 s1 HJ b24 hL uo um ⊢
  have UO := hid uo
  have UM := hid um
  clear uo um
  go_enter Try.func43, Try.ntmps43
  go_wp2_with fail
  refine (length_any _ _).mono ?_
  rintro e w' ⟨rfl, rfl⟩
  rw [hL.out]
  have hsz : w.heap.size < (w.alloc (.cells #[.int .i64 op, .int .i64 d, .int .i64 s, .int .i64 o, .int .i64 m] 23)).heap.size := by simp
  have x0 : (w.alloc (.cells #[.int .i64 op, .int .i64 d, .int .i64 s, .int .i64 o, .int .i64 m] 23)).cell? ⟨w.heap.size, 0, none⟩ = some (.int .i64 op) := by simp
  have x1 : (w.alloc (.cells #[.int .i64 op, .int .i64 d, .int .i64 s, .int .i64 o, .int .i64 m] 23)).cell? ⟨w.heap.size, 1, none⟩ = some (.int .i64 d) := by simp
  have x2 : (w.alloc (.cells #[.int .i64 op, .int .i64 d, .int .i64 s, .int .i64 o, .int .i64 m] 23)).cell? ⟨w.heap.size, 2, none⟩ = some (.int .i64 s) := by simp
  have x3 : (w.alloc (.cells #[.int .i64 op, .int .i64 d, .int .i64 s, .int .i64 o, .int .i64 m] 23)).cell? ⟨w.heap.size, 3, none⟩ = some (.int .i64 o) := by simp
  have x4 : (w.alloc (.cells #[.int .i64 op, .int .i64 d, .int .i64 s, .int .i64 o, .int .i64 m] 23)).cell? ⟨w.heap.size, 4, none⟩ = some (.int .i64 m) := by simp
  have HB0 := hid (below_new w (.cells #[.int .i64 op, .int .i64 d, .int .i64 s, .int .i64 o, .int .i64 m] 23))
  generalize w.alloc (.cells #[.int .i64 op, .int .i64 d, .int .i64 s, .int .i64 o, .int .i64 m] 23) = W at *
  have HX := hid (And.intro x0 (And.intro x3 x4))
  go_wp2_with (at_make; refine wpList_make_full _ rfl _ _ 33 rfl W.heap.size 5 i0 (.int .u8 0) 1 Try.underlying33 hi hz0 hz1 .i64 .i64 _ _ 16 rfl rfl rfl rfl (by rw [hz2]; omega) (by unfold maxLen; omega) (Nat.le_refl _) ?_; intro w1 hown1 hgrow1; obtain ⟨y0, y1, y2, y3, y4, z0, z1, f0, f1, HO, HG⟩ := made_facts (by omega) hown1 hgrow1 x0 x1 x2 x3 x4; clear hown1 hgrow1 x0 x1 x2 x3 x4)
  rw [show bits .or .i64 (s * 16) d % 256 = d + 16 * s by rw [HJ.out]; omega, show IntKind.u64.wrap o = ((unsig o : Nat) : Int) by rw [UO.out, IntKind.wrap_u64]]
  have own2 := HO.out op (d + 16 * s)
  have hg2 := HG.out op (d + 16 * s)
  clear HO HG y0 y1 y2 y3 y4 z0 z1 f0 f1
  generalize (w1.setCell ⟨W.heap.size, 0, none⟩ (.int .u8 op)).setCell ⟨W.heap.size, 1, none⟩ (.int .u8 (d + 16 * s)) = w2 at own2 hg2 ⊢
  have HG2 := hid hg2
  have HO2 := hid own2
  clear hg2 own2
  refine (put_yes W.heap.size W.heap.size 16 16 16 16 _ 2 2 (unsig o : Nat) w2 (by omega) (by simp) (by omega) HO2.out rfl (by omega)).mono ?_
  rintro e w3 ⟨rfl, own3, hg3⟩
  rw [show (2 : Int).toNat = 2 from rfl, Int.toNat_natCast] at own3
  have HO3 := hid own3
  have HG3 := hid (grownBy_trans' HG2.out hg3)
  clear own3 hg3
  have y4 := HG3.out.cell HX.out.2.2 (by simp; omega)
  go_wp2_with fail
  rw [show IntKind.u64.wrap m = ((unsig m : Nat) : Int) by rw [UM.out, IntKind.wrap_u64]]
  refine (put_yes W.heap.size W.heap.size 16 16 16 16 _ 4 4 (unsig m : Nat) w3 (by omega) (by rw [putK_length]; simp) (by omega) HO3.out rfl (by omega)).mono ?_
  rintro e w4 ⟨rfl, own4, hg4⟩
  rw [show (4 : Int).toNat = 4 from rfl, Int.toNat_natCast] at own4
  have HO4 := hid own4
  have HG4 := hid (grownBy_trans' HG3.out hg4)
  clear own4 hg4 y4
  have y0 := HG4.out.cell HX.out.1 (by simp; omega)
  have y4 := HG4.out.cell HX.out.2.2 (by simp; omega)
  have ulim := unsig_lt m
  go_wp2_with fail
  rw [show IntKind.u64.wrap m / 4294967296 = ((unsig m / 4294967296 : Nat) : Int) by rw [Int.natCast_ediv, UM.out, IntKind.wrap_u64]; rfl]
  refine (put_yes W.heap.size W.heap.size 16 16 16 16 _ 12 4 (unsig m / 4294967296 : Nat) w4 (by omega) (by rw [putK_length, putK_length]; simp) (by omega) HO4.out rfl (by omega)).mono ?_
  rintro e w5 ⟨rfl, own5, hg5⟩
  rw [show (12 : Int).toNat = 12 from rfl, show (4 : Int).toNat = 4 from rfl, Int.toNat_natCast] at own5
  have HO5 := hid own5
  have HG5 := hid (grownBy_trans' HG4.out hg5)
  clear own5 hg5 y4 y0
  go_wp2_with fail
  go_ret
  exact ⟨W.heap.size, 16, rfl, ⟨HO5.out.1, HO5.out.2.imp id (fun ⟨g, c, cu, a, b, r⟩ => ⟨g, c, cu, a, by omega, r⟩)⟩, below_ofB HB0.out HG5.out (by omega)⟩
theorem bytesOf_any (x : In) (w : World) (hf : Fine x) :
    Calls Try.prog 43 #[insnV x.op x.d x.s x.o x.m] w (RowPost 5 w (lenI x.op) (encOne x)) := by
  by_cases h : x.op = 24
  · rw [show lenI x.op = 16 by unfold lenI; rw [if_pos h]]
    exact bytesOf_16 x w hf h
  · rw [show lenI x.op = 8 by unfold lenI; rw [if_neg h]]
    exact bytesOf_8 x w hf h
end Go.Proofs.Ytccjfnkneiggcaa.Insn
