/-
  Plain facts on instructions that are got; the program's first.
-/
import Derived.Test.YtccjfnkneiggcaaRefPut
import Derived.Deep.RegionHeld3
import Derived.Deep.DeepCutAuto
namespace Go.Proofs.Ytccjfnkneiggcaa.Insn
open Go.RowKit Go.Proofs.Ytccjfnkneiggcaa.Num Go.Proofs.Ytccjfnkneiggcaa.ListB Go.Proofs.Ytccjfnkneiggcaa.Bytes
def errFirst (zs : List Int) : Int :=
  if zs.length < lenI (zs.getD 0 0) then 20 else if zs.getD 0 0 = 24 ∧ numAt zs 8 4 ≠ 0 then 9 else (decIn zs).chk
def getT : Nat → List In → List Int → List In × Int
  | 0, acc, _ => (acc, 0)
  | f + 1, acc, zs => if zs = [] then (acc, 0) else if acc.length = 256 then ([], 19) else if errFirst zs ≠ 0 then ([], errFirst zs) else getT f (acc ++ [decIn zs]) (zs.drop (lenI (zs.getD 0 0)))
def getR (zs : List Int) : List In × Int := getT 257 [] zs
theorem getT_end (f : Nat) (acc : List In) (zs : List Int) (h : zs = []) : getT (f + 1) acc zs = (acc, 0) := by unfold getT; rw [if_pos h]
theorem getT_many (f : Nat) (acc : List In) (zs : List Int) (h : zs ≠ []) (ha : acc.length = 256) : getT (f + 1) acc zs = ([], 19) := by unfold getT; rw [if_neg h, if_pos ha]
theorem getT_err (f : Nat) (acc : List In) (zs : List Int) (h : zs ≠ []) (ha : acc.length ≠ 256) (he : errFirst zs ≠ 0) : getT (f + 1) acc zs = ([], errFirst zs) := by unfold getT; rw [if_neg h, if_neg ha, if_pos he]
theorem getT_step (f : Nat) (acc : List In) (zs : List Int) (h : zs ≠ []) (ha : acc.length ≠ 256) (he : errFirst zs = 0) : getT (f + 1) acc zs = getT f (acc ++ [decIn zs]) (zs.drop (lenI (zs.getD 0 0))) := by
  conv => lhs; unfold getT
  rw [if_neg h, if_neg ha, if_neg (by simpa using he)]
theorem i16_sign (u : Nat) (h : u < 65536) : IntKind.i16.wrap (u : Int) = signR u 2 := by
  rw [signR_2]
  simp only [IntKind.wrap, IntKind.bits, IntKind.signed, Bool.true_and]
  repeat' split
  all_goals (simp at *; omega)
theorem i32_sign (u : Nat) (h : u < 4294967296) : IntKind.i32.wrap (u : Int) = signR u 4 := by
  rw [signR_4, IntKind.wrap_i32]; split <;> omega
theorem i64_sign (u : Nat) (h : u < 18446744073709551616) : wrap64 (u : Int) = signR u 8 := by
  rw [signR_8]; unfold wrap64; split <;> omega
theorem and15_all : ((List.range 256).all fun k => decide (bits .and .u8 (k : Int) 15 = (k : Int) % 16)) = true := by kernel_rfl
theorem and15 (z : Int) (h0 : 0 ≤ z) (h1 : z ≤ 255) : bits .and .u8 z 15 = z % 16 := by
  have a := List.all_eq_true.1 and15_all z.toNat (List.mem_range.2 (by omega))
  rw [decide_eq_true_eq, Int.toNat_of_nonneg h0] at a
  exact a
theorem get_at (b off len cap k n : Nat) (zs : List Int) (hl : len ≤ 9223372036854775807) (hz : zs.length = len) (hf : fitsB len k n = true) : ∀ w, Row w b off zs →
    Calls Try.prog 60 #[.slice (some ⟨b, off, none⟩) len cap, .int .i64 k, .int .i64 n] w fun e w' => e = .returned (.tuple #[.int .u64 (numAt zs k n : Nat), .bool true]) ∧ w = w' := fun w hr => by
  have h := get_yes b off len cap zs k n w hl hz hr hf
  rw [Int.toNat_natCast, Int.toNat_natCast] at h
  exact h
theorem get_2_2 (b off len cap : Nat) (zs : List Int) (hl : len ≤ 9223372036854775807) (hz : zs.length = len) (hk : 4 ≤ len) : ∀ w, Row w b off zs →
    Calls Try.prog 60 #[.slice (some ⟨b, off, none⟩) len cap, .int .i64 2, .int .i64 2] w fun e w' => e = .returned (.tuple #[.int .u64 (numAt zs 2 2 : Nat), .bool true]) ∧ w = w' :=
  get_at b off len cap 2 2 zs hl hz (by simp [fitsB]; omega)
theorem get_4_4 (b off len cap : Nat) (zs : List Int) (hl : len ≤ 9223372036854775807) (hz : zs.length = len) (hk : 8 ≤ len) : ∀ w, Row w b off zs →
    Calls Try.prog 60 #[.slice (some ⟨b, off, none⟩) len cap, .int .i64 4, .int .i64 4] w fun e w' => e = .returned (.tuple #[.int .u64 (numAt zs 4 4 : Nat), .bool true]) ∧ w = w' :=
  get_at b off len cap 4 4 zs hl hz (by simp [fitsB]; omega)
theorem get_8_4 (b off len cap : Nat) (zs : List Int) (hl : len ≤ 9223372036854775807) (hz : zs.length = len) (hk : 12 ≤ len) : ∀ w, Row w b off zs →
    Calls Try.prog 60 #[.slice (some ⟨b, off, none⟩) len cap, .int .i64 8, .int .i64 4] w fun e w' => e = .returned (.tuple #[.int .u64 (numAt zs 8 4 : Nat), .bool true]) ∧ w = w' :=
  get_at b off len cap 8 4 zs hl hz (by simp [fitsB]; omega)
theorem get_12_4 (b off len cap : Nat) (zs : List Int) (hl : len ≤ 9223372036854775807) (hz : zs.length = len) (hk : 16 ≤ len) : ∀ w, Row w b off zs →
    Calls Try.prog 60 #[.slice (some ⟨b, off, none⟩) len cap, .int .i64 12, .int .i64 4] w fun e w' => e = .returned (.tuple #[.int .u64 (numAt zs 12 4 : Nat), .bool true]) ∧ w = w' :=
  get_at b off len cap 12 4 zs hl hz (by simp [fitsB]; omega)
theorem fS_drew {w w1 : World} {b o : Nat} {y : Int} (h : (w1.cell? ⟨b, o, none⟩ = some (.int .u8 y) ∧ Below w.heap.size w w1)) : (w1.drew.cell? ⟨b, o, none⟩ = some (.int .u8 y) ∧ Below w.heap.size w w1.drew) := ⟨h.1, h.2.drew⟩
theorem fS_alloc {w w1 : World} {b o : Nat} {y : Int} (hb : b < w.heap.size) (h : (w1.cell? ⟨b, o, none⟩ = some (.int .u8 y) ∧ Below w.heap.size w w1)) (x : Obj) : ((w1.alloc x).cell? ⟨b, o, none⟩ = some (.int .u8 y) ∧ Below w.heap.size w (w1.alloc x)) :=
  ⟨cell_up h.1 (below_new _ _) (Nat.lt_of_lt_of_le hb h.2.size), h.2.alloc h.2.size x⟩
theorem row_up {w w' : World} {b off : Nat} {zs : List Int} (h : Row w b off zs) (hb : Below w.heap.size w w') (hB : b < w.heap.size) : Row w' b off zs :=
  ⟨fun i hi => (hb.cell (p := ⟨b, off + i, none⟩) hB).trans (h.1 i hi), h.2⟩
theorem zero_facts {w : World} {g : Nat} {a b c d e : Int} (h : w.heap[g]? = some (.cells #[.int .i64 a, .int .i64 b, .int .i64 c, .int .i64 d, .int .i64 e] 23 (0, 0))) :
    w.cell? ⟨g, 0, none⟩ = some (.int .i64 a) ∧ w.cell? ⟨g, 1, none⟩ = some (.int .i64 b) ∧ w.cell? ⟨g, 2, none⟩ = some (.int .i64 c) ∧ w.cell? ⟨g, 3, none⟩ = some (.int .i64 d) ∧ w.cell? ⟨g, 4, none⟩ = some (.int .i64 e) ∧
    w.frozen? ⟨g, 0, none⟩ = false ∧ w.frozen? ⟨g, 1, none⟩ = false ∧ w.frozen? ⟨g, 2, none⟩ = false ∧ w.frozen? ⟨g, 3, none⟩ = false ∧ w.frozen? ⟨g, 4, none⟩ = false :=
  ⟨cell_of_row w g 0 _ _ (0, 0) h, cell_of_row w g 1 _ _ (0, 0) h, cell_of_row w g 2 _ _ (0, 0) h, cell_of_row w g 3 _ _ (0, 0) h, cell_of_row w g 4 _ _ (0, 0) h, by simp [World.frozen?, h], by simp [World.frozen?, h], by simp [World.frozen?, h], by simp [World.frozen?, h], by simp [World.frozen?, h]⟩
theorem set5_all (w1 : World) (z : Nat) {u0 u1 u2 u3 u4 : Value} (h0 : w1.cell? ⟨z, 0, none⟩ = some u0) (h1 : w1.cell? ⟨z, 1, none⟩ = some u1) (h2 : w1.cell? ⟨z, 2, none⟩ = some u2) (h3 : w1.cell? ⟨z, 3, none⟩ = some u3) (h4 : w1.cell? ⟨z, 4, none⟩ = some u4) (v0 v1 v2 v3 v4 : Value) :
    (((((w1.setCell ⟨z, 0, none⟩ v0).setCell ⟨z, 1, none⟩ v1).setCell ⟨z, 2, none⟩ v2).setCell ⟨z, 3, none⟩ v3).setCell ⟨z, 4, none⟩ v4).cell? ⟨z, 0, none⟩ = some v0 ∧ (((((w1.setCell ⟨z, 0, none⟩ v0).setCell ⟨z, 1, none⟩ v1).setCell ⟨z, 2, none⟩ v2).setCell ⟨z, 3, none⟩ v3).setCell ⟨z, 4, none⟩ v4).cell? ⟨z, 1, none⟩ = some v1 ∧ (((((w1.setCell ⟨z, 0, none⟩ v0).setCell ⟨z, 1, none⟩ v1).setCell ⟨z, 2, none⟩ v2).setCell ⟨z, 3, none⟩ v3).setCell ⟨z, 4, none⟩ v4).cell? ⟨z, 2, none⟩ = some v2 ∧ (((((w1.setCell ⟨z, 0, none⟩ v0).setCell ⟨z, 1, none⟩ v1).setCell ⟨z, 2, none⟩ v2).setCell ⟨z, 3, none⟩ v3).setCell ⟨z, 4, none⟩ v4).cell? ⟨z, 3, none⟩ = some v3 ∧ (((((w1.setCell ⟨z, 0, none⟩ v0).setCell ⟨z, 1, none⟩ v1).setCell ⟨z, 2, none⟩ v2).setCell ⟨z, 3, none⟩ v3).setCell ⟨z, 4, none⟩ v4).cell? ⟨z, 4, none⟩ = some v4 := by
  refine ⟨?_, ?_, ?_, ?_, ?_⟩ <;> go_simp
theorem below_set5 {w w1 : World} (h : Below w.heap.size w w1) (v0 v1 v2 v3 v4 : Value) (z : Nat) (hz : w.heap.size ≤ z) : Below w.heap.size w (((((w1.setCell ⟨z, 0, none⟩ v0).setCell ⟨z, 1, none⟩ v1).setCell ⟨z, 2, none⟩ v2).setCell ⟨z, 3, none⟩ v3).setCell ⟨z, 4, none⟩ v4) :=
  ((((h.setCell hz v0).setCell hz v1).setCell hz v2).setCell hz v3).setCell hz v4
theorem or_join (u4 u12 : Nat) (h4 : u4 < 4294967296) (h12 : u12 < 4294967296) : bits .or .u64 ((u12 : Int) * 4294967296) (u4 : Int) = ((u4 + u12 * 4294967296 : Nat) : Int) := by
  rw [show ((u12 : Int) * 4294967296) = ((u12 * 4294967296 : Nat) : Int) by omega, or64, ← or64N _ _ (by omega) (by omega) (by omega) (by omega), Int.toNat_natCast, Int.toNat_natCast]
  have e : (4294967296 : Nat) = 2 ^ 32 := rfl
  rw [e] at h4
  rw [e, Nat.mul_comm u12, ← Nat.two_pow_add_eq_or_of_lt h4, Nat.add_comm]
theorem imm_join (u4 u12 : Nat) (h4 : u4 < 4294967296) (h12 : u12 < 4294967296) : wrap64 (bits .or .u64 ((u12 : Int) * 4294967296) (u4 : Int)) = signR (u4 + u12 * 4294967296) 8 := by
  rw [or_join u4 u12 h4 h12]
  exact i64_sign _ (by omega)
def CutF (W : World) (op d s o m : Int) (p : Value) (wx : World) : Prop := ∃ z, p = .pointer (some ⟨z, 0, none⟩) ∧ XB wx z ⟨op, d, s, o, m⟩ ∧ W.heap.size ≤ z ∧ Below W.heap.size W wx
def FirstPost (zs : List Int) (w : World) (e : Ending) (w' : World) : Prop := e = .returned (.tuple #[if errFirst zs = 0 then insnV (decIn zs).op (decIn zs).d (decIn zs).s (decIn zs).o (decIn zs).m else insnV 0 0 0 0 0, .int .i64 (errFirst zs)]) ∧ Below w.heap.size w w'
set_option maxHeartbeats 2000000 in
theorem first_any (b off len cap : Nat) (zs : List Int) (w : World) (hz : zs.length = len) (h0 : 0 < len) (hl : len ≤ 9223372036854775807) (hr : Row w b off zs) :
    Calls Try.prog 46 #[.slice (some ⟨b, off, none⟩) len cap] w (FirstPost zs w) := by
  have hb : b < w.heap.size := World.block_lt_of_cell? w _ (hr.1 0 (by omega))
  have c0 := hr.1 0 (by omega)
  rw [Nat.add_zero] at c0
  have z0 := hr.2 0
  have HR := hid hr
  have HZ := hid hz
  generalize hop : zs.getD 0 0 = op at c0 z0
  obtain ⟨o0, o1⟩ := z0
  have HOP := hid hop
  by_cases hs : len < lenI op
  · have HE := hid (show errFirst zs = 20 from by unfold errFirst; rw [hop, if_pos (by omega)])
    have hs' : decide (len < lenI op) = true := by simp; omega
    clear hr hz hop
    go_enter Try.func46, Try.ntmps46
    go_wp2_with fail
    refine (length_any _ _).mono ?_
    rintro e w' ⟨rfl, rfl⟩
    go_wp2_with fail
    exact bodyPost_ret (v := .tuple #[insnV 0 0 0 0 0, .int .i64 20]) (by simp [results, insnV, Try.results46, go_sem]) rfl ⟨by rw [HE.out, if_neg (by decide)], (Below.refl _ _).alloc (Nat.le_refl _) _⟩
  · have hs' : decide (len < lenI op) = false := by simp; omega
    have h8 : 8 ≤ len := by unfold lenI at hs; split at hs <;> omega
    have G2 := hid (get_2_2 b off len cap zs (by omega) hz (by omega))
    have G4 := hid (get_4_4 b off len cap zs (by omega) hz (by omega))
    have l2 : numAt zs 2 2 < 65536 := leV_lt _ (fun i => by have := hr.2 (2 + i); omega) 2
    have l4 : numAt zs 4 4 < 4294967296 := leV_lt _ (fun i => by have := hr.2 (4 + i); omega) 4
    have c1 := hr.1 1 (by omega)
    have z1 := hr.2 1
    have HD := hid (show decIn zs = ⟨op, zs.getD 1 0 % 16, zs.getD 1 0 / 16, signR (numAt zs 2 2) 2, if op = 24 then signR (numAt zs 4 4 + numAt zs 12 4 * 4294967296) 8 else signR (numAt zs 4 4) 4⟩ from by unfold decIn; rw [hop])
    have HE := hid (show errFirst zs = if op = 24 ∧ numAt zs 8 4 ≠ 0 then 9 else (decIn zs).chk from by unfold errFirst; rw [hop, if_neg (by omega)])
    generalize zs.getD 1 0 = y at c1 z1 HD
    obtain ⟨y0, y1⟩ := z1
    have N2 := hid (i16_sign _ l2)
    have N4 := hid (i32_sign _ l4)
    have A15 := hid (and15 y y0 y1)
    have HZS := hid (show ∀ u v : In, True from fun _ _ => trivial)
    clear HZS hr hz hop hs
    generalize numAt zs 2 2 = u2 at G2 l2 N2 HD
    generalize h4 : numAt zs 4 4 = u4 at G4 l4 N4 HD
    have e1 := hid (show IntKind.i64.wrap (bits .and .u8 y 15) = y % 16 from by rw [A15.out]; exact IntWalk.i64_in _ (by omega))
    have e2 := hid (show IntKind.i64.wrap (y / 16) = y / 16 from IntWalk.i64_in _ (by omega))
    have b2 : -32768 ≤ signR u2 2 ∧ signR u2 2 ≤ 32767 := by rw [signR_2]; split <;> omega
    have b4 : -2147483648 ≤ signR u4 4 ∧ signR u4 4 ≤ 2147483647 := by rw [signR_4]; split <;> omega
    have e3 := hid (show IntKind.i64.wrap (IntKind.i16.wrap (u2 : Int)) = signR u2 2 from by rw [N2.out]; exact IntWalk.i64_in _ (by omega))
    have e4 := hid (show IntKind.i64.wrap (IntKind.i32.wrap (u4 : Int)) = signR u4 4 from by rw [N4.out]; exact IntWalk.i64_in _ (by omega))
    have H4 := hid h4
    clear h4
    go_enter Try.func46, Try.ntmps46
    go_wp2_with fail
    refine (length_any _ _).mono ?_
    rintro e w' ⟨rfl, rfl⟩
    have hz1 : w.heap.size + 1 = (w.alloc (.cells #[.int .i64 0, .int .i64 0, .int .i64 0, .int .i64 0, .int .i64 0] 23)).heap.size := by simp
    have HXZ := hid (XB.new w ⟨0, 0, 0, 0, 0⟩)
    have HB1 := hid (below_new w (.cells #[.int .i64 0, .int .i64 0, .int .i64 0, .int .i64 0, .int .i64 0] 23))
    simp only at HXZ
    generalize w.alloc (.cells #[.int .i64 0, .int .i64 0, .int .i64 0, .int .i64 0, .int .i64 0] 23) = W1 at hz1 HXZ HB1 ⊢
    have R1 := hid (row_up HR.out HB1.out hb)
    have hb1 : b < W1.heap.size := by omega
    have d0 : W1.cell? ⟨b, off, none⟩ = some (.int .u8 op) := cell_up c0 HB1.out hb
    have d1 : W1.cell? ⟨b, off + 1, none⟩ = some (.int .u8 y) := cell_up c1 HB1.out hb
    clear c0 c1
    go_wp2_with fail
    refine (G2.out _ R1.out).mono ?_
    rintro e w' ⟨rfl, rfl⟩
    go_wp2_with fail
    refine (G4.out _ R1.out).mono ?_
    rintro e w' ⟨rfl, rfl⟩
    go_upto_region 7 with fail
    go_cut [9] (fun p wx => CutF W1 op (y % 16) (y / 16) (signR u2 2) (signR u4 4) p wx)
    case first =>
      have hS0 : W1.cell? ⟨b, off + 1, none⟩ = some (.int .u8 y) ∧ Below W1.heap.size W1 W1 := ⟨d1, Below.refl _ _⟩
      have hl1 : (1 : Int) < (len : Int) := by omega
      go_region_held3 (fun w' => w'.cell? ⟨b, off + 1, none⟩ = some (.int .u8 y) ∧ Below W1.heap.size W1 w')
        (first | (with_reducible assumption) | (with_reducible exact fS_drew ‹_›) | (with_reducible exact fS_alloc hb1 ‹_› _) | (with_reducible exact fS_drew (fS_alloc hb1 ‹_› _)))
        (first | fail)
      all_goals (go_wp2_with fail; go_meet)
      all_goals exact ⟨W1.heap.size, rfl, (heap_alloc_new W1 _).trans (by rw [e1.out, e2.out, e3.out, e4.out]), Nat.le_refl _, And.right (by assumption)⟩
    case rest =>
      obtain ⟨z, rfl, hx, hz, hB⟩ := hcut
      obtain ⟨x0, x1, x2, x3, x4⟩ := hx.cells
      simp only at x0 x1 x2 x3 x4
      have hxz : wc.heap[w.heap.size]? = some (.cells #[.int .i64 0, .int .i64 0, .int .i64 0, .int .i64 0, .int .i64 0] 23 (0, 0)) := (hB.block w.heap.size (by omega)).trans HXZ.out
      have HBC := hid (HB1.out.trans (hB.mono (by omega)))
      have HXC := hid hx
      have HXZC := hid hxz
      have RC := hid (row_up R1.out hB hb1)
      have hzw := hx.lt
      clear hx hB hxz d0 d1 HXZ
      by_cases h24 : op = 24
      · have b24 : (op == 24) = true := by simp [h24]
        have h16 : 16 ≤ len := by
          have : lenI op = 16 := by unfold lenI; rw [if_pos h24]
          simp at hs'; omega
        have G8 := hid (get_8_4 b off len cap zs (by omega) HZ.out (by omega))
        have G12 := hid (get_12_4 b off len cap zs (by omega) HZ.out (by omega))
        have l12 : numAt zs 12 4 < 4294967296 := leV_lt _ (fun i => by have := HR.out.2 (12 + i); omega) 4
        rw [if_pos h24] at HD
        generalize numAt zs 8 4 = u8 at G8 HE
        generalize numAt zs 12 4 = u12 at G12 l12 HD
        obtain ⟨x0, x1, x2, x3, x4, x5, x6, x7, x8, x9⟩ := zero_facts HXC.out
        obtain ⟨f0, f1, f2, f3, f4, g0, g1, g2, g3, g4⟩ := zero_facts HXZC.out
        by_cases h8 : u8 = 0
        · have hne : ¬ (op = 24 ∧ u8 ≠ 0) := fun h => h.2 h8
          rw [if_neg hne, HD.out] at HE
          have hu8 : ((u8 : Int) != 0) = false := by simp [h8]
          have e5 := hid (imm_join u4 u12 l4 l12)
          clear h24 h8 hne
          go_wp2_with fail
          refine (G8.out _ RC.out).mono ?_
          rintro e w' ⟨rfl, rfl⟩
          go_wp2_with fail
          refine (G12.out _ RC.out).mono ?_
          rintro e w' ⟨rfl, rfl⟩
          go_wp2_with fail
          rw [e5.out]
          have bM : -9223372036854775808 ≤ signR (u4 + u12 * 4294967296) 8 ∧ signR (u4 + u12 * 4294967296) 8 ≤ 9223372036854775807 := by rw [signR_8]; split <;> omega
          generalize signR (u4 + u12 * 4294967296) 8 = M at HD HE bM ⊢
          have hX2 : (wc.setCell ⟨z, 4, none⟩ (.int .i64 M)).heap[z]? = some (.cells #[.int .i64 op, .int .i64 (y % 16), .int .i64 (y / 16), .int .i64 (signR u2 2), .int .i64 M] 23 (0, 0)) := heap_setCell_same wc z 4 _ _ _ HXC.out
          have hXZ2 : (wc.setCell ⟨z, 4, none⟩ (.int .i64 M)).heap[w.heap.size]? = some (.cells #[.int .i64 0, .int .i64 0, .int .i64 0, .int .i64 0, .int .i64 0] 23 (0, 0)) := (RowKit.Below.heap_setCell _ _ _ _ (by simp; omega)).trans HXZC.out
          have hBB : Below w.heap.size w (wc.setCell ⟨z, 4, none⟩ (.int .i64 M)) := HBC.out.setCell (p := ⟨z, 4, none⟩) (by simp; omega) _
          have hsz2 : (wc.setCell ⟨z, 4, none⟩ (.int .i64 M)).heap.size = wc.heap.size := by simp
          generalize wc.setCell ⟨z, 4, none⟩ (.int .i64 M) = W2 at hX2 hXZ2 hBB hsz2 ⊢
          have hzw2 : z < W2.heap.size := by omega
          have HX2 := hid hX2
          have HXZ2 := hid hXZ2
          have HB2 := hid hBB
          clear hX2 hXZ2 hBB x0 x1 x2 x3 x4 x5 x6 x7 x8 x9 f0 f1 f2 f3 f4 g0 g1 g2 g3 g4
          have HCK := hid (fun w => dcheck_any op (y % 16) (y / 16) (signR u2 2) M w (WalkArith.wf_i64 (by omega)))
          rw [show chkD op (y % 16) (y / 16) (signR u2 2) M = (In.mk op (y % 16) (y / 16) (signR u2 2) M).chk from chk_eq _ _ _ _ _ (by omega)] at HCK
          generalize (In.mk op (y % 16) (y / 16) (signR u2 2) M).chk = q at HCK HE
          unfold insnV at HCK
          refine (HCK.out _).mono ?_
          rintro e w2 ⟨rfl, hb2⟩
          have hz2 : w2.heap[w.heap.size]? = _ := (hb2.block w.heap.size (by omega)).trans HXZ2.out
          have hx2 : w2.heap[z]? = _ := (hb2.block z hzw2).trans HX2.out
          obtain ⟨f0, f1, f2, f3, f4, g0, g1, g2, g3, g4⟩ := zero_facts hz2
          obtain ⟨x0, x1, x2, x3, x4, _⟩ := zero_facts hx2
          have hbl := hid (HB2.out.trans (hb2.mono HB2.out.size))
          have hzlt : w.heap.size < w2.heap.size := by have := hb2.size; omega
          clear hz2 hx2 hb2
          by_cases h0 : q = 0
          · subst h0
            go_wp2_with fail
            have S := set5_all w2 w.heap.size f0 f1 f2 f3 f4 (.int .i64 op) (.int .i64 (y % 16)) (.int .i64 (y / 16)) (.int .i64 (signR u2 2)) (.int .i64 M)
            exact bodyPost_ret (v := .tuple #[insnV op (y % 16) (y / 16) (signR u2 2) M, .int .i64 0]) (by simp [results, insnV, Try.results46, go_sem, S.1, S.2.1, S.2.2.1, S.2.2.2.1, S.2.2.2.2]) rfl ⟨by rw [HE.out, if_pos rfl, HD.out], below_set5 hbl.out _ _ _ _ _ _ (Nat.le_refl _)⟩
          · have hq : (q != 0) = true := by simpa using h0
            have H0 := hid h0
            clear h0
            go_wp2_with fail
            have S := set5_all w2 w.heap.size f0 f1 f2 f3 f4 (.int .i64 0) (.int .i64 0) (.int .i64 0) (.int .i64 0) (.int .i64 0)
            exact bodyPost_ret (v := .tuple #[insnV 0 0 0 0 0, .int .i64 q]) (by simp [results, insnV, Try.results46, go_sem, S.1, S.2.1, S.2.2.1, S.2.2.2.1, S.2.2.2.2]) rfl ⟨by rw [HE.out, if_neg H0.out], below_set5 hbl.out _ _ _ _ _ _ (Nat.le_refl _)⟩
        · have hne : (op = 24 ∧ u8 ≠ 0) := ⟨h24, h8⟩
          rw [if_pos hne] at HE
          have hu8 : ((u8 : Int) != 0) = true := by simp; omega
          clear h24 h8 hne
          go_wp2_with fail
          refine (G8.out _ RC.out).mono ?_
          rintro e w' ⟨rfl, rfl⟩
          go_wp2_with fail
          have S := set5_all wc w.heap.size f0 f1 f2 f3 f4 (.int .i64 0) (.int .i64 0) (.int .i64 0) (.int .i64 0) (.int .i64 0)
          exact bodyPost_ret (v := .tuple #[insnV 0 0 0 0 0, .int .i64 9]) (by simp [results, insnV, Try.results46, go_sem, S.1, S.2.1, S.2.2.1, S.2.2.2.1, S.2.2.2.2]) rfl ⟨by rw [HE.out, if_neg (by decide)], below_set5 HBC.out _ _ _ _ _ _ (Nat.le_refl _)⟩
      · have b24 : (op == 24) = false := by simp [h24]
        have hne : ¬ (op = 24 ∧ numAt zs 8 4 ≠ 0) := fun h => h24 h.1
        rw [if_neg h24] at HD
        rw [if_neg hne, HD.out] at HE
        have HCK := hid (fun w => dcheck_any op (y % 16) (y / 16) (signR u2 2) (signR u4 4) w (WalkArith.wf_i64 (by omega)))
        rw [show chkD op (y % 16) (y / 16) (signR u2 2) (signR u4 4) = (In.mk op (y % 16) (y / 16) (signR u2 2) (signR u4 4)).chk from chk_eq _ _ _ _ _ (by omega)] at HCK
        generalize (In.mk op (y % 16) (y / 16) (signR u2 2) (signR u4 4)).chk = q at HCK HE
        unfold insnV at HCK
        clear h24 hne
        clear x0 x1 x2 x3 x4
        obtain ⟨x0, x1, x2, x3, x4, _⟩ := zero_facts HXC.out
        go_wp2_with fail
        refine (HCK.out _).mono ?_
        rintro e w2 ⟨rfl, hb2⟩
        have hz2 : w2.heap[w.heap.size]? = _ := (hb2.block w.heap.size (by omega)).trans HXZC.out
        have hx2 : w2.heap[z]? = _ := (hb2.block z hzw).trans HXC.out
        obtain ⟨f0, f1, f2, f3, f4, g0, g1, g2, g3, g4⟩ := zero_facts hz2
        obtain ⟨x0, x1, x2, x3, x4, _⟩ := zero_facts hx2
        have hbl := hid (HBC.out.trans (hb2.mono HBC.out.size))
        have hzlt : w.heap.size < w2.heap.size := by have := hb2.size; omega
        clear hz2 hx2 hb2
        by_cases h0 : q = 0
        · subst h0
          go_wp2_with fail
          have S := set5_all w2 w.heap.size f0 f1 f2 f3 f4 (.int .i64 op) (.int .i64 (y % 16)) (.int .i64 (y / 16)) (.int .i64 (signR u2 2)) (.int .i64 (signR u4 4))
          exact bodyPost_ret (v := .tuple #[insnV op (y % 16) (y / 16) (signR u2 2) (signR u4 4), .int .i64 0]) (by simp [results, insnV, Try.results46, go_sem, S.1, S.2.1, S.2.2.1, S.2.2.2.1, S.2.2.2.2]) rfl ⟨by rw [HE.out, if_pos rfl, HD.out], below_set5 hbl.out _ _ _ _ _ _ (Nat.le_refl _)⟩
        · have hq : (q != 0) = true := by simpa using h0
          have H0 := hid h0
          clear h0
          go_wp2_with fail
          have S := set5_all w2 w.heap.size f0 f1 f2 f3 f4 (.int .i64 0) (.int .i64 0) (.int .i64 0) (.int .i64 0) (.int .i64 0)
          exact bodyPost_ret (v := .tuple #[insnV 0 0 0 0 0, .int .i64 q]) (by simp [results, insnV, Try.results46, go_sem, S.1, S.2.1, S.2.2.1, S.2.2.2.1, S.2.2.2.2]) rfl ⟨by rw [HE.out, if_neg H0.out], below_set5 hbl.out _ _ _ _ _ _ (Nat.le_refl _)⟩
end Go.Proofs.Ytccjfnkneiggcaa.Insn
