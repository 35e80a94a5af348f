/-
  The document's Get: what it answers.
-/
import Derived.Test.YtccjfnkneiggcaaLawKnown
import Derived.Deep.RegionHeld3
import Derived.Test.YtccjfnkneiggcaaUp
import Derived.Deep.DeepCutAuto
namespace Go.Proofs.Ytccjfnkneiggcaa.Insn
open Go.RowKit Go.Proofs.Ytccjfnkneiggcaa.Num Go.Proofs.Ytccjfnkneiggcaa.ListB Go.Proofs.Ytccjfnkneiggcaa.Up
theorem numAt_drop (zs : List Int) (t k n : Nat) : numAt (zs.drop t) k n = numAt zs (t + k) n := by
  unfold numAt
  apply leV_ext
  intro j _
  rw [getD_dropI, Nat.add_assoc]
theorem near_pos (t : Nat) : 0 ≤ (t : Int) + 1 := by omega
theorem near_lt {t k len : Nat} (h : t + k < len) : (t : Int) + (k : Int) < (len : Int) := by omega
theorem near_wrap {t : Nat} (h : t ≤ 8192) (k : Nat) (hk : k ≤ 16) : IntKind.i64.wrap ((t : Int) + (k : Int)) = (t : Int) + (k : Int) := IntWalk.i64_in _ (by omega)
def R5 (B k : Nat) (x : World) : Prop := B ≤ k ∧ ∃ a b c d e, x.heap[k]? = some (.cells #[a, b, c, d, e] 23 (0, 0))
theorem r5_ups (B k : Nat) : Ups (R5 B k) := fun _ _ hw hb => by
  obtain ⟨hB, a, b, c, d, e, h⟩ := hw
  exact ⟨hB, a, b, c, d, e, ups_block k _ _ _ h hb⟩
theorem r5_new {B : Nat} {x : World} (hB : B ≤ x.heap.size) {a b c d e : Value} : R5 B x.heap.size (x.alloc (.cells #[a, b, c, d, e] 23)) := ⟨hB, _, _, _, _, _, heap_new _ _⟩
theorem xb_ups (B k : Nat) (i : In) : Ups fun x => B ≤ k ∧ XB x k i := fun _ _ hw hb => ⟨hw.1, ups_block k _ _ _ hw.2 hb⟩
theorem five_facts {x : World} {k : Nat} (h : ∃ a b c d e, x.heap[k]? = some (.cells #[a, b, c, d, e] 23 (0, 0))) : ∃ a b c d e, x.cell? ⟨k, 0, none⟩ = some a ∧ x.cell? ⟨k, 1, none⟩ = some b ∧ x.cell? ⟨k, 2, none⟩ = some c ∧ x.cell? ⟨k, 3, none⟩ = some d ∧ x.cell? ⟨k, 4, none⟩ = some e ∧
    x.frozen? ⟨k, 0, none⟩ = false ∧ x.frozen? ⟨k, 1, none⟩ = false ∧ x.frozen? ⟨k, 2, none⟩ = false ∧ x.frozen? ⟨k, 3, none⟩ = false ∧ x.frozen? ⟨k, 4, none⟩ = false := by
  obtain ⟨a, b, c, d, e, h⟩ := h
  exact ⟨a, b, c, d, e, cell_of_row x k 0 _ _ (0, 0) h, cell_of_row x k 1 _ _ (0, 0) h, cell_of_row x k 2 _ _ (0, 0) h, cell_of_row x k 3 _ _ (0, 0) h, cell_of_row x k 4 _ _ (0, 0) h, by simp [World.frozen?, h], by simp [World.frozen?, h], by simp [World.frozen?, h], by simp [World.frozen?, h], by simp [World.frozen?, h]⟩
abbrev Put5 (k : Nat) (a b c d e : Value) (x : World) : World := ((((x.setCell ⟨k, 0, none⟩ a).setCell ⟨k, 1, none⟩ b).setCell ⟨k, 2, none⟩ c).setCell ⟨k, 3, none⟩ d).setCell ⟨k, 4, none⟩ e
theorem put5_keeps {W : World} {B k : Nat} (i : In) (x : World) (h : Below B W x ∧ R5 B k x) : Below B W (Put5 k (.int .i64 i.op) (.int .i64 i.d) (.int .i64 i.s) (.int .i64 i.o) (.int .i64 i.m) x) ∧ (B ≤ k ∧ XB (Put5 k (.int .i64 i.op) (.int .i64 i.d) (.int .i64 i.s) (.int .i64 i.o) (.int .i64 i.m) x) k i) := by
  obtain ⟨hb, hk, a, b, c, d, e, h⟩ := h
  refine ⟨((((hb.setCell hk _).setCell hk _).setCell hk _).setCell hk _).setCell hk _, hk, ?_⟩
  exact heap_setCell_same _ _ 4 _ _ _ (heap_setCell_same _ _ 3 _ _ _ (heap_setCell_same _ _ 2 _ _ _ (heap_setCell_same _ _ 1 _ _ _ (heap_setCell_same _ _ 0 _ _ _ h))))
theorem sg2 {x : World} {b off len cap t u : Nat} {zs : List Int} (hl : len ≤ 8192) (hz : zs.length = len) (hr : Row x b off zs) (hk : t + 4 ≤ len) (hu : numAt zs (t + 2) 2 = u) :
    Calls Try.prog 48 #[.slice (some ⟨b, off, none⟩) len cap, .int .i64 ((t : Int) + 2), .int .i64 2] x fun e w' => e = .returned (.int .i64 (signR u 2)) ∧ Below x.heap.size x w' :=
  (signed_any b off len cap (t + 2) 2 zs x (by omega) hz hr (Or.inl rfl) (by omega)).mono fun e w' ht => ⟨hu ▸ ht.1, ht.2 ▸ Below.refl _ _⟩
theorem sg4 {x : World} {b off len cap t u : Nat} {zs : List Int} (hl : len ≤ 8192) (hz : zs.length = len) (hr : Row x b off zs) (hk : t + 8 ≤ len) (hu : numAt zs (t + 4) 4 = u) :
    Calls Try.prog 48 #[.slice (some ⟨b, off, none⟩) len cap, .int .i64 ((t : Int) + 4), .int .i64 4] x fun e w' => e = .returned (.int .i64 (signR u 4)) ∧ Below x.heap.size x w' :=
  (signed_any b off len cap (t + 4) 4 zs x (by omega) hz hr (Or.inr (Or.inl rfl)) (by omega)).mono fun e w' ht => ⟨hu ▸ ht.1, ht.2 ▸ Below.refl _ _⟩
theorem numAt_88 (a b c d e f g h : Int) : numAt [a, b, c, d, e, f, g, h] 0 8 = (a.toNat + b.toNat * 256 + c.toNat * 65536 + d.toNat * 16777216) + (e.toNat + f.toNat * 256 + g.toNat * 65536 + h.toNat * 16777216) * 4294967296 := by
  unfold numAt; simp [leV]; omega
theorem row4 {w : World} {b off : Nat} {zs : List Int} (h : Row w b off zs) (k : Nat) (hk : k + 4 ≤ zs.length) : ∀ j u, ([.int .u8 (zs.getD k 0), .int .u8 (zs.getD (k + 1) 0), .int .u8 (zs.getD (k + 2) 0), .int .u8 (zs.getD (k + 3) 0)] : List Value)[j]? = some u → w.cell? ((⟨b, off + k, none⟩ : Addr).add j) = some u := fun j u hu => by
  have e : ∀ j, (⟨b, off + k, none⟩ : Addr).add j = ⟨b, off + (k + j), none⟩ := fun j => by unfold Addr.add; split <;> simp_all <;> omega
  rw [e]
  match j, hu with
  | 0, hu => simp at hu; subst hu; exact h.1 k (by omega)
  | 1, hu => simp at hu; subst hu; exact h.1 (k + 1) (by omega)
  | 2, hu => simp at hu; subst hu; exact h.1 (k + 2) (by omega)
  | 3, hu => simp at hu; subst hu; exact h.1 (k + 3) (by omega)
  | j + 4, hu => simp at hu
theorem four_one (a b c d : Int) : ∀ (u : Value), u ∈ [Value.int .u8 a, .int .u8 b, .int .u8 c, .int .u8 d] → u.oneCell' = true := by
  intro u hu
  simp at hu
  rcases hu with rfl | rfl | rfl | rfl <;> rfl
set_option maxHeartbeats 4000000 in
set_option maxRecDepth 100000 in
theorem rget_any (a0 : Option Addr) (len0 cap0 : Nat) (zs : List Int) (w : World) (h : Arg w a0 len0 zs) (hc : len0 ≤ cap0) (hl : len0 ≤ 8192) (_ : cap0 ≤ 9223372036854775807) :
    Calls Try.prog 26 #[.slice a0 len0 cap0] w (GetPost w (getR zs)) := by
  have HT0 := hid (show Turn [] (zs.drop 0) (getR zs) from ⟨by simp, rfl⟩)
  obtain ⟨R, hR⟩ : ∃ R, getR zs = R := ⟨_, rfl⟩
  rw [hR] at HT0 ⊢
  clear hR
  have HZ := hid h.1
  have HA0 := hid h
  clear h
  have HG := hid (fun w' acc v h1 h2 h3 => get_good w w' R acc v h1 h2 h3)
  have HBAD := hid (fun w' e h1 h2 => get_bad w w' R e h1 h2)
  obtain ⟨i0, hi, hz0, hz1, hz2⟩ := info_parts infoIn
  obtain ⟨j0, hj, hj0, hj1, hj2⟩ := info_parts info8
  go_enter Try.func26, Try.ntmps26
  go_wp2
  go_loopw [4, 5] (fun v tv wr => ∃ (t : Nat) (acc : List In) (oa : Option Addr) (oc : Nat), tv = .int .i64 t ∧ v = .slice oa acc.length oc ∧ t ≤ len0 ∧ Hid (Turn acc (zs.drop t) R) ∧ wr.ownsRow w.heap.size 23 5 v acc.length (VN acc) ∧ Below w.heap.size w wr) (fun _ tv _ => len0 - (intOf tv).toNat)
  case atStart => exact ⟨0, [], none, 0, rfl, rfl, Nat.zero_le _, HT0, World.ownsRow_nil _ _ _ _, Below.refl _ _⟩
  case round =>
    obtain ⟨t, acc, oa, oc, rfl, rfl, htl, HT, hown, hbel⟩ := hrel
    have HO := hid hown
    have HB := hid hbel
    have hsz := hbel.size
    have HLD := hid (show (zs.drop t).length = len0 - t by rw [List.length_drop, HZ.out])
    clear hown hbel
    by_cases hz : t < len0
    · have hd : decide ((t : Int) < (len0 : Int)) = true := by simp; omega
      have hnil : zs.drop t ≠ [] := fun e => by have := HLD.out; rw [e] at this; simp at this; omega
      by_cases h256 : acc.length = 256
      · have HF := hid (HBAD.out wr _ (turn_many HT.out hnil h256) HB.out)
        clear hnil
        go_wp2_with fail
        go_ret2
        exact HF.out
      · have b256 : ((acc.length : Int) == 256) = false := by simp; omega
        have hacc := HT.out.1
        obtain ⟨b, off, rfl, hb, hcell⟩ := HA0.out.2.2 (by omega)
        have hbw : b < wr.heap.size := by omega
        have HR := hid (row_up (show Row w b off zs from ⟨fun i hi => hcell i (by rw [← HZ.out]; exact hi), HA0.out.2.1⟩) HB.out hb)
        have HNIL := hid hnil
        clear hcell hnil
        have c0 := HR.out.1 t (by rw [HZ.out]; exact hz)
        have z0b := HR.out.2 t
        have HOP := hid (show (zs.drop t).getD 0 0 = zs.getD t 0 from getD_dropI zs t 0)
        obtain ⟨z0, hz0e⟩ : ∃ z, zs.getD t 0 = z := ⟨_, rfl⟩
        rw [hz0e] at c0 z0b HOP
        have HZ0 := hid hz0e
        obtain ⟨z00, z01⟩ := z0b
        clear hz0e
        by_cases hs : len0 - t < lenI z0
        · have HE := hid (show errFirst (zs.drop t) = 20 by unfold errFirst; rw [HOP.out, if_pos (by rw [HLD.out]; exact hs)])
          have HF := hid (HBAD.out wr 20 (by rw [turn_err HT.out HNIL.out h256 (by rw [HE.out]; decide), HE.out]) HB.out)
          by_cases h8 : len0 - t < 8
          · have hd1 : decide ((len0 : Int) - (t : Int) < 8) = true := by simp; omega
            go_wp2_with fail
            go_ret2
            exact HF.out
          · have hd1 : decide ((len0 : Int) - (t : Int) < 8) = false := by simp; omega
            have h24 : z0 = 24 := Classical.byContradiction fun e => by unfold lenI at hs; rw [if_neg e] at hs; omega
            have hd2 : decide ((len0 : Int) - (t : Int) < 16) = true := by subst h24; unfold lenI at hs; simp at hs ⊢; omega
            have b24 : (z0 == 24) = true := by simp [h24]
            clear h24
            go_wp2_with fail
            go_ret2
            exact HF.out
        · have HSS := hid hs
          have h8 : 8 ≤ lenI z0 := lenI_pos z0
          have hd1 : decide ((len0 : Int) - (t : Int) < 8) = false := by simp; omega
          have hk4 : t + 4 ≤ len0 := by omega
          have hk8 : t + 8 ≤ len0 := by omega
          have c1 := HR.out.1 (t + 1) (by rw [HZ.out]; omega)
          have yb := HR.out.2 (t + 1)
          obtain ⟨y, hye⟩ : ∃ z, zs.getD (t + 1) 0 = z := ⟨_, rfl⟩
          rw [hye] at c1 yb
          have HY := hid hye
          obtain ⟨y0, y1⟩ := yb
          obtain ⟨u2, hu2⟩ : ∃ u, numAt zs (t + 2) 2 = u := ⟨_, rfl⟩
          obtain ⟨u4, hu4⟩ : ∃ u, numAt zs (t + 4) 4 = u := ⟨_, rfl⟩
          have HU2 := hid hu2
          have HU4 := hid hu4
          clear hye hu2 hu4
          by_cases h24 : z0 = 24
          · have b24 : (z0 == 24) = true := by simp [h24]
            have h16 : t + 16 ≤ len0 := by unfold lenI at hs; rw [if_pos h24] at hs; omega
            have hd2 : decide ((len0 : Int) - (t : Int) < 16) = false := by simp; omega
            have H24 := hid h24
            clear h24
            have HEZ := hid (show numAt zs (t + 8) 4 ≠ 0 → errFirst (zs.drop t) = 9 from fun hne => by unfold errFirst; rw [HOP.out, if_neg (fun e => HSS.out (by rw [HLD.out] at e; exact e)), if_pos ⟨H24.out, by rw [numAt_drop]; exact hne⟩])
            have HEN := hid (show numAt zs (t + 8) 4 = 0 → errFirst (zs.drop t) = (decIn (zs.drop t)).chk from fun he => by unfold errFirst; rw [HOP.out, if_neg (fun e => HSS.out (by rw [HLD.out] at e; exact e)), if_neg (fun e => e.2 (by rw [numAt_drop]; exact he))])
            obtain ⟨n12, hn12⟩ : ∃ u, numAt zs (t + 12) 4 = u := ⟨_, rfl⟩
            have HU12 := hid hn12
            have HD := hid (show decIn (zs.drop t) = ⟨z0, y % 16, y / 16, signR u2 2, signR (u4 + n12 * 4294967296) 8⟩ by unfold decIn; rw [HOP.out, if_pos H24.out, getD_dropI, HY.out, numAt_drop, numAt_drop, numAt_drop, HU2.out, HU4.out, hn12])
            clear hn12
            go_upto_region 9 with fail
            go_cut [7] (fun p wx => CutF wr z0 (y % 16) (y / 16) (signR u2 2) (signR u4 4) p wx)
            case first =>
              have HCa := hid (show IntKind.i64.wrap z0 = z0 from IntWalk.i64_in _ (by omega))
              have HCb := hid (show IntKind.i64.wrap y = y from IntWalk.i64_in _ (by omega))
              have HCc := hid (show y.tmod 16 = y % 16 from Int.tmod_eq_emod_of_nonneg y0)
              have HCd := hid (show IntKind.i64.wrap (y.tdiv 16) = y / 16 by rw [Int.tdiv_eq_ediv_of_nonneg y0]; exact IntWalk.i64_in _ (by omega))
              have HUP := hid (ups_below (B := wr.heap.size) (w := wr) (Nat.le_refl _))
              have hn0 : 0 ≤ (t : Int) := Int.natCast_nonneg t
              have hn1 : 0 ≤ (t : Int) + 1 := near_pos t
              have ht1 : ((t : Int) + 1).toNat = t + 1 := rfl
              have hi0 : (t : Int) < (len0 : Int) := near_lt (k := 0) (by omega)
              have hi1 : (t : Int) + 1 < (len0 : Int) := near_lt (k := 1) (by omega)
              have htt : t ≤ 8192 := by omega
              have hw1 : IntKind.i64.wrap ((t : Int) + 1) = (t : Int) + 1 := near_wrap htt 1 (by decide)
              have hw2 : IntKind.i64.wrap ((t : Int) + 2) = (t : Int) + 2 := near_wrap htt 2 (by decide)
              have hw4 : IntKind.i64.wrap ((t : Int) + 4) = (t : Int) + 4 := near_wrap htt 4 (by decide)
              refine up_begin (Below wr.heap.size wr) 30 rfl (by kernel_rfl) ((Below.refl _ _).drew) ?_
              refine take_val (i := 0) HUP.out rfl rfl (by kernel_rfl) (fun _ _ _ h => h) (by rfl) (by intro x hx; go_simp; (first | done | exact rfl)) ?_
              simp only [List.set_cons_succ, List.set_cons_zero]
              refine take_val (i := 1) HUP.out rfl rfl (by kernel_rfl) (fun _ _ _ h => h) (by rfl) (by intro x hx; go_simp; (first | done | exact rfl)) ?_
              simp only [List.set_cons_succ, List.set_cons_zero]
              refine take_val (i := 2) HUP.out rfl rfl (by kernel_rfl) (fun _ _ _ h => h) (by rfl) (by intro x hx; have e0 := (hx.cell (p := ⟨b, off + t, none⟩) hbw).trans c0; have e1 := (hx.cell (p := ⟨b, off + (t + 1), none⟩) hbw).trans c1; go_simp; (first | done | exact rfl)) ?_
              simp only [List.set_cons_succ, List.set_cons_zero]
              refine take_val (i := 3) HUP.out rfl rfl (by kernel_rfl) (fun _ _ _ h => h) (by rfl) (by intro x hx; have e0 := (hx.cell (p := ⟨b, off + t, none⟩) hbw).trans c0; have e1 := (hx.cell (p := ⟨b, off + (t + 1), none⟩) hbw).trans c1; go_simp; (first | done | exact rfl)) ?_
              simp only [List.set_cons_succ, List.set_cons_zero]
              refine take_val (i := 4) HUP.out rfl rfl (by kernel_rfl) (fun _ _ _ h => h) (by rfl) (by intro x hx; go_simp; (first | rw [hw1] | rw [hw2] | rw [hw4] | rw [HCa.out] | rw [HCb.out] | rw [HCc.out] | rw [HCd.out] | skip); (first | done | exact rfl)) ?_
              simp only [List.set_cons_succ, List.set_cons_zero]
              refine take_val (i := 5) HUP.out rfl rfl (by kernel_rfl) (fun _ _ _ h => h) (by rfl) (by intro x hx; go_simp; (first | done | exact rfl)) ?_
              simp only [List.set_cons_succ, List.set_cons_zero]
              refine take_val (i := 6) HUP.out rfl rfl (by kernel_rfl) (fun _ _ _ h => h) (by rfl) (by intro x hx; go_simp; (first | done | exact rfl)) ?_
              simp only [List.set_cons_succ, List.set_cons_zero]
              refine take_val (i := 7) HUP.out rfl rfl (by kernel_rfl) (fun _ _ _ h => h) (by rfl) (by intro x hx; go_simp; (first | rw [hw1] | rw [hw2] | rw [hw4] | rw [HCa.out] | rw [HCb.out] | rw [HCc.out] | rw [HCd.out] | skip); (first | done | exact rfl)) ?_
              simp only [List.set_cons_succ, List.set_cons_zero]
              refine take_val (i := 8) HUP.out rfl rfl (by kernel_rfl) (fun _ _ _ h => h) (by rfl) (by intro x hx; have e0 := (hx.cell (p := ⟨b, off + t, none⟩) hbw).trans c0; have e1 := (hx.cell (p := ⟨b, off + (t + 1), none⟩) hbw).trans c1; go_simp; (first | done | exact rfl)) ?_
              simp only [List.set_cons_succ, List.set_cons_zero]
              refine take_val (i := 9) HUP.out rfl rfl (by kernel_rfl) (fun _ _ _ h => h) (by rfl) (by intro x hx; have e0 := (hx.cell (p := ⟨b, off + t, none⟩) hbw).trans c0; have e1 := (hx.cell (p := ⟨b, off + (t + 1), none⟩) hbw).trans c1; go_simp; (first | done | exact rfl)) ?_
              simp only [List.set_cons_succ, List.set_cons_zero]
              refine take_val (i := 10) HUP.out rfl rfl (by kernel_rfl) (fun _ _ _ h => h) (by rfl) (by intro x hx; go_simp; (first | rw [hw1] | rw [hw2] | rw [hw4] | rw [HCa.out] | rw [HCb.out] | rw [HCc.out] | rw [HCd.out] | skip); (first | done | exact rfl)) ?_
              simp only [List.set_cons_succ, List.set_cons_zero]
              refine take_val (i := 11) HUP.out rfl rfl (by kernel_rfl) (fun _ _ _ h => h) (by rfl) (by intro x hx; go_simp; (first | rw [hw1] | rw [hw2] | rw [hw4] | rw [HCa.out] | rw [HCb.out] | rw [HCc.out] | rw [HCd.out] | skip); (first | done | exact rfl)) ?_
              simp only [List.set_cons_succ, List.set_cons_zero]
              refine take_val (i := 12) HUP.out rfl rfl (by kernel_rfl) (fun _ _ _ h => h) (by rfl) (by intro x hx; go_simp; (first | done | exact rfl)) ?_
              simp only [List.set_cons_succ, List.set_cons_zero]
              refine take_val (i := 13) HUP.out rfl rfl (by kernel_rfl) (fun _ _ _ h => h) (by rfl) (by intro x hx; go_simp; (first | done | exact rfl)) ?_
              simp only [List.set_cons_succ, List.set_cons_zero]
              refine take_val (i := 14) HUP.out rfl rfl (by kernel_rfl) (fun _ _ _ h => h) (by rfl) (by intro x hx; go_simp; (first | rw [hw1] | rw [hw2] | rw [hw4] | rw [HCa.out] | rw [HCb.out] | rw [HCc.out] | rw [HCd.out] | skip); (first | done | exact rfl)) ?_
              simp only [List.set_cons_succ, List.set_cons_zero]
              refine take_val (i := 15) HUP.out rfl rfl (by kernel_rfl) (fun _ _ _ h => h) (by rfl) (by intro x hx; have e0 := (hx.cell (p := ⟨b, off + t, none⟩) hbw).trans c0; have e1 := (hx.cell (p := ⟨b, off + (t + 1), none⟩) hbw).trans c1; go_simp; (first | done | exact rfl)) ?_
              simp only [List.set_cons_succ, List.set_cons_zero]
              refine take_val (i := 16) HUP.out rfl rfl (by kernel_rfl) (fun _ _ _ h => h) (by rfl) (by intro x hx; have e0 := (hx.cell (p := ⟨b, off + t, none⟩) hbw).trans c0; have e1 := (hx.cell (p := ⟨b, off + (t + 1), none⟩) hbw).trans c1; go_simp; (first | done | exact rfl)) ?_
              simp only [List.set_cons_succ, List.set_cons_zero]
              refine take_val (i := 17) HUP.out rfl rfl (by kernel_rfl) (fun _ _ _ h => h) (by rfl) (by intro x hx; go_simp; (first | rw [hw1] | rw [hw2] | rw [hw4] | rw [HCa.out] | rw [HCb.out] | rw [HCc.out] | rw [HCd.out] | skip); (first | done | exact rfl)) ?_
              simp only [List.set_cons_succ, List.set_cons_zero]
              refine take_val (i := 18) HUP.out rfl rfl (by kernel_rfl) (fun _ _ _ h => h) (by rfl) (by intro x hx; go_simp; (first | rw [hw1] | rw [hw2] | rw [hw4] | rw [HCa.out] | rw [HCb.out] | rw [HCc.out] | rw [HCd.out] | skip); (first | done | exact rfl)) ?_
              simp only [List.set_cons_succ, List.set_cons_zero]
              refine take_val (i := 19) HUP.out rfl rfl (by kernel_rfl) (fun _ _ _ h => h) (by rfl) (by intro x hx; go_simp; (first | done | exact rfl)) ?_
              simp only [List.set_cons_succ, List.set_cons_zero]
              refine take_val (i := 20) HUP.out rfl rfl (by kernel_rfl) (fun _ _ _ h => h) (by rfl) (by intro x hx; go_simp; (first | done | exact rfl)) ?_
              simp only [List.set_cons_succ, List.set_cons_zero]
              refine take_val (i := 21) HUP.out rfl rfl (by kernel_rfl) (fun _ _ _ h => h) (by rfl) (by intro x hx; go_simp; (first | rw [hw1] | rw [hw2] | rw [hw4] | rw [HCa.out] | rw [HCb.out] | rw [HCc.out] | rw [HCd.out] | skip); (first | done | exact rfl)) ?_
              simp only [List.set_cons_succ, List.set_cons_zero]
              refine take_call (i := 22) (f := 48) (args := #[.slice (some ⟨b, off, none⟩) len0 cap0, .int .i64 ((t : Int) + 2), .int .i64 2]) HUP.out rfl rfl (by kernel_rfl) (fun _ _ _ h => h) (by rfl) (fun x hx => by kernel_rfl) (by intro x hx; have e0 := (hx.cell (p := ⟨b, off + t, none⟩) hbw).trans c0; have e1 := (hx.cell (p := ⟨b, off + (t + 1), none⟩) hbw).trans c1; exact sg2 (by omega) HZ.out (row_up HR.out hx hbw) hk4 HU2.out) ?_
              simp only [List.set_cons_succ, List.set_cons_zero]
              refine take_val (i := 23) HUP.out rfl rfl (by kernel_rfl) (fun _ _ _ h => h) (by rfl) (by intro x hx; go_simp; (first | done | exact rfl)) ?_
              simp only [List.set_cons_succ, List.set_cons_zero]
              refine take_val (i := 24) HUP.out rfl rfl (by kernel_rfl) (fun _ _ _ h => h) (by rfl) (by intro x hx; go_simp; (first | done | exact rfl)) ?_
              simp only [List.set_cons_succ, List.set_cons_zero]
              refine take_val (i := 25) HUP.out rfl rfl (by kernel_rfl) (fun _ _ _ h => h) (by rfl) (by intro x hx; go_simp; (first | rw [hw1] | rw [hw2] | rw [hw4] | rw [HCa.out] | rw [HCb.out] | rw [HCc.out] | rw [HCd.out] | skip); (first | done | exact rfl)) ?_
              simp only [List.set_cons_succ, List.set_cons_zero]
              refine take_call (i := 26) (f := 48) (args := #[.slice (some ⟨b, off, none⟩) len0 cap0, .int .i64 ((t : Int) + 4), .int .i64 4]) HUP.out rfl rfl (by kernel_rfl) (fun _ _ _ h => h) (by rfl) (fun x hx => by kernel_rfl) (by intro x hx; have e0 := (hx.cell (p := ⟨b, off + t, none⟩) hbw).trans c0; have e1 := (hx.cell (p := ⟨b, off + (t + 1), none⟩) hbw).trans c1; exact sg4 (by omega) HZ.out (row_up HR.out hx hbw) hk8 HU4.out) ?_
              simp only [List.set_cons_succ, List.set_cons_zero]
              refine take_val (i := 27) HUP.out rfl rfl (by kernel_rfl) (fun _ _ _ h => h) (by rfl) (by intro x hx; go_simp; (first | done | exact rfl)) ?_
              simp only [List.set_cons_succ, List.set_cons_zero]
              refine take_one (i := 28) (by kernel_rfl) (step_make_as HUP.out rfl rfl (by rfl) (.cells #[.int .i64 0, .int .i64 0, .int .i64 0, .int .i64 0, .int .i64 0] 23 (0, 0)) (fun k => .pointer (some ⟨k, 0, none⟩)) (R5 wr.heap.size) (r5_ups _) (fun x hx => r5_new hx.size) (by intro x hx; have e0 := (hx.cell (p := ⟨b, off + t, none⟩) hbw).trans c0; have e1 := (hx.cell (p := ⟨b, off + (t + 1), none⟩) hbw).trans c1; go_simp; (first | done | exact rfl)) (fun k0 => ?_))
              simp only [List.set_cons_succ, List.set_cons_zero]
              refine take_one (i := 29) (by kernel_rfl) (step_store (fun x => Below wr.heap.size wr x ∧ (wr.heap.size ≤ k0 ∧ XB x k0 ⟨z0, y % 16, y / 16, signR u2 2, signR u4 4⟩)) (ups_and (ups_below (Nat.le_refl _)) (xb_ups _ _ _)) (fun x hx => ⟨hx.1, hx.2.1, _, _, _, _, _, hx.2.2⟩) rfl rfl (by rfl) (Put5 k0 (.int .i64 z0) (.int .i64 (y % 16)) (.int .i64 (y / 16)) (.int .i64 (signR u2 2)) (.int .i64 (signR u4 4))) (by intro x hx; obtain ⟨hx, r5⟩ := hx; have e0 := (hx.cell (p := ⟨b, off + t, none⟩) hbw).trans c0; have e1 := (hx.cell (p := ⟨b, off + (t + 1), none⟩) hbw).trans c1; obtain ⟨q0, q1, q2, q3, q4, x0, x1, x2, x3, x4, f0, f1, f2, f3, f4⟩ := five_facts r5.2; go_simp; (first | done | rfl)) (by intro x hx; exact put5_keeps ⟨z0, y % 16, y / 16, signR u2 2, signR u4 4⟩ x hx) ?_)
              refine take_done (by kernel_rfl) ?_ _
              intro x hx
              go_wp2_with fail
              go_meet
              exact ⟨k0, rfl, hx.2.2, hx.2.1, hx.1⟩
            case rest =>
              obtain ⟨z, rfl, hx, hzz, hB⟩ := hcut
              have HX := hid hx
              have HBC := hid hB
              have RC := hid (row_up HR.out hB hbw)
              obtain ⟨x0, x1, x2, x3, x4, f0, f1, f2, f3, f4⟩ := zero_facts hx
              clear f0 f1 f2 f3 hx hB
              have d0 := RC.out.1 (t + 8) (by rw [HZ.out]; omega)
              have d1 := RC.out.1 (t + 9) (by rw [HZ.out]; omega)
              have d2 := RC.out.1 (t + 10) (by rw [HZ.out]; omega)
              have d3 := RC.out.1 (t + 11) (by rw [HZ.out]; omega)
              have p0 := RC.out.2 (t + 8)
              have p1 := RC.out.2 (t + 9)
              have p2 := RC.out.2 (t + 10)
              have p3 := RC.out.2 (t + 11)
              obtain ⟨q0, hq0⟩ : ∃ q, zs.getD (t + 8) 0 = q := ⟨_, rfl⟩
              obtain ⟨q1, hq1⟩ : ∃ q, zs.getD (t + 9) 0 = q := ⟨_, rfl⟩
              obtain ⟨q2, hq2⟩ : ∃ q, zs.getD (t + 10) 0 = q := ⟨_, rfl⟩
              obtain ⟨q3, hq3⟩ : ∃ q, zs.getD (t + 11) 0 = q := ⟨_, rfl⟩
              rw [hq0] at d0 p0
              rw [hq1] at d1 p1
              rw [hq2] at d2 p2
              rw [hq3] at d3 p3
              have HQ0 := hid hq0
              have HQ1 := hid hq1
              have HQ2 := hid hq2
              have HQ3 := hid hq3
              clear hq0 hq1 hq2 hq3
              by_cases e0 : q0 = 0
              · have bq0 : (q0 != 0) = false := by simp [e0]
                by_cases e1 : q1 = 0
                · have bq1 : (q1 != 0) = false := by simp [e1]
                  by_cases e2 : q2 = 0
                  · have bq2 : (q2 != 0) = false := by simp [e2]
                    by_cases e3 : q3 = 0
                    · have bq3 : (q3 != 0) = false := by simp [e3]
                      have HEC := hid (show errFirst (zs.drop t) = (decIn (zs.drop t)).chk from HEN.out (by rw [numAt_4, show t + 8 + 1 = t + 9 from rfl, show t + 8 + 2 = t + 10 from rfl, show t + 8 + 3 = t + 11 from rfl, HQ0.out, HQ1.out, HQ2.out, HQ3.out, e0, e1, e2, e3]; rfl))
                      clear e0 e1 e2 e3
                      obtain ⟨a4, ha4⟩ : ∃ a, zs.getD (t + 4) 0 = a := ⟨_, rfl⟩
                      obtain ⟨a5, ha5⟩ : ∃ a, zs.getD (t + 4 + 1) 0 = a := ⟨_, rfl⟩
                      obtain ⟨a6, ha6⟩ : ∃ a, zs.getD (t + 4 + 2) 0 = a := ⟨_, rfl⟩
                      obtain ⟨a7, ha7⟩ : ∃ a, zs.getD (t + 4 + 3) 0 = a := ⟨_, rfl⟩
                      obtain ⟨b4, hb4⟩ : ∃ a, zs.getD (t + 12) 0 = a := ⟨_, rfl⟩
                      obtain ⟨b5, hb5⟩ : ∃ a, zs.getD (t + 12 + 1) 0 = a := ⟨_, rfl⟩
                      obtain ⟨b6, hb6⟩ : ∃ a, zs.getD (t + 12 + 2) 0 = a := ⟨_, rfl⟩
                      obtain ⟨b7, hb7⟩ : ∃ a, zs.getD (t + 12 + 3) 0 = a := ⟨_, rfl⟩
                      have N1 := row4 RC.out (t + 4) (by rw [HZ.out]; omega)
                      rw [ha4, ha5, ha6, ha7] at N1
                      have N1 := hid N1
                      have HE8 := hid (show signR (numAt [a4, a5, a6, a7, b4, b5, b6, b7] 0 8) 8 = signR (u4 + n12 * 4294967296) 8 by
                        rw [numAt_88, ← HU4.out, ← HU12.out, numAt_4, numAt_4, ha4, ha5, ha6, ha7, hb4, hb5, hb6, hb7])
                      have HB8 := hid (show ∀ i, 0 ≤ ([a4, a5, a6, a7, b4, b5, b6, b7] : List Int).getD i 0 ∧ ([a4, a5, a6, a7, b4, b5, b6, b7] : List Int).getD i 0 ≤ 255 from bd_of (fun v hv => by
                        simp only [List.mem_cons, List.not_mem_nil, or_false] at hv
                        rcases hv with rfl | rfl | rfl | rfl | rfl | rfl | rfl | rfl
                        · rw [← ha4]; exact HR.out.2 _
                        · rw [← ha5]; exact HR.out.2 _
                        · rw [← ha6]; exact HR.out.2 _
                        · rw [← ha7]; exact HR.out.2 _
                        · rw [← hb4]; exact HR.out.2 _
                        · rw [← hb5]; exact HR.out.2 _
                        · rw [← hb6]; exact HR.out.2 _
                        · rw [← hb7]; exact HR.out.2 _))
                      have HA4 := hid (And.intro hb4 (And.intro hb5 (And.intro hb6 hb7)))
                      clear ha4 ha5 ha6 ha7 hb4 hb5 hb6 hb7
                      have cne1 : ¬ cap0 = t + 4 := by omega
                      have cne2 : ¬ cap0 = t + 12 := by omega
                      go_wp2_with (at_builtin; go_loud (refine wpList_append_own _ rfl _ _ 33 rfl wc.heap.size 5 j0 (.int .u8 0) 1 1 Try.underlying33 hj hj0 hj1 hj2 rfl (by decide) (.slice none 0 0) 0 [] rfl (World.ownsRow_nil _ _ _ _) ⟨b, off + (t + 4), none⟩ _ _ [.int .u8 a4, .int .u8 a5, .int .u8 a6, .int .u8 a7] rfl ?kl N1.out (four_one _ _ _ _) ?k3 ?k4 ?k5 ?_))
                      try (case kl => first | rfl | (simp; done) | (simp; omega))
                      try (case k3 => unfold maxLen; first | omega | (simp; omega))
                      try (case k4 => first | omega | (simp; done) | (simp; omega))
                      try (case k5 => first | exact Nat.le_refl _ | simp)
                      intro v7 w7 hown7 hgr7 _
                      have hb7 : Below wc.heap.size wc w7 := (Below.refl _ _).grown hgr7 (Nat.le_refl _) (fun k hk => by simp [Value.ownBlock] at hk)
                      have hl7 : t + 8 - (t + 4) = 4 := by omega
                      first | rw [hl7] at hown7 | skip
                      have hown7 : w7.ownsRow wc.heap.size 5 1 v7 4 (V [a4, a5, a6, a7]) := hown7
                      have HO7 := hid hown7
                      have HB7 := hid hb7
                      have RC7 := row4 (row_up RC.out hb7 (Nat.lt_of_lt_of_le hbw HBC.out.size)) (t + 12) (by rw [HZ.out]; omega)
                      rw [HA4.out.1, HA4.out.2.1, HA4.out.2.2.1, HA4.out.2.2.2] at RC7
                      have N2 := hid RC7
                      have hs7 := hb7.size
                      clear hown7 hgr7 hb7 RC7 x0 x1 x2 x3 x4 f4 d0 d1 d2 d3
                      go_wp2_with (at_builtin; go_loud (refine wpList_append_own _ rfl _ _ 33 rfl wc.heap.size 5 j0 (.int .u8 0) 1 1 Try.underlying33 hj hj0 hj1 hj2 rfl (by decide) _ _ _ rfl HO7.out ⟨b, off + (t + 12), none⟩ _ _ [.int .u8 b4, .int .u8 b5, .int .u8 b6, .int .u8 b7] rfl ?ml N2.out (four_one _ _ _ _) ?m3 ?m4 ?m5 ?_))
                      try (case ml => first | rfl | (simp; done) | (simp; omega))
                      try (case m3 => unfold maxLen; first | omega | (simp; omega))
                      try (case m4 => first | omega | (simp; done) | (simp; omega))
                      try (case m5 => first | omega | (simp; omega))
                      intro v8 w8 hown8 hgr8 _
                      have hb8 : Below wc.heap.size wc w8 := HB7.out.grown hgr8 hs7 (fun k hk => (HO7.out.lt k hk).1)
                      have hl8 : t + 16 - (t + 12) = 4 := by omega
                      first | rw [hl8] at hown8 | skip
                      have hown8 : w8.ownsRow wc.heap.size 5 1 v8 8 (V [a4, a5, a6, a7, b4, b5, b6, b7]) := hown8
                      obtain ⟨g8, c8, rfl⟩ := own_shapeG hown8 (by omega)
                      have HX8 := hid (show XB w8 z _ from (hb8.block z HX.out.lt).trans HX.out)
                      have HBD := hid (HBC.out.trans (hb8.mono HBC.out.size))
                      have SG := signed_any g8 0 8 c8 0 8 [a4, a5, a6, a7, b4, b5, b6, b7] w8 (by omega) rfl ⟨fun i hi => own_cellB hown8 i hi, HB8.out⟩ (Or.inr (Or.inr rfl)) (by omega)
                      rw [HE8.out] at SG
                      have SG := hid SG
                      obtain ⟨M, hM⟩ : ∃ M, signR (u4 + n12 * 4294967296) 8 = M := ⟨_, rfl⟩
                      rw [hM] at HD SG
                      clear hM HE8 hown8 hgr8 hb8 N1 N2 HB8 HA4
                      obtain ⟨x0, x1, x2, x3, x4, f0, f1, f2, f3, f4⟩ := zero_facts HX8.out
                      clear f0 f1 f2 f3
                      go_wp2_with fail
                      refine SG.out.mono ?_
                      rintro e w' ⟨rfl, rfl⟩
                      go_wp2_with fail
                      have hX9 : (w8.setCell ⟨z, 4, none⟩ (.int .i64 M)).heap[z]? = some (.cells #[.int .i64 z0, .int .i64 (y % 16), .int .i64 (y / 16), .int .i64 (signR u2 2), .int .i64 M] 23 (0, 0)) := heap_setCell_same w8 z 4 _ _ _ HX8.out
                      have hB9 : Below wr.heap.size wr (w8.setCell ⟨z, 4, none⟩ (.int .i64 M)) := HBD.out.setCell (p := ⟨z, 4, none⟩) hzz _
                      generalize w8.setCell ⟨z, 4, none⟩ (.int .i64 M) = W9 at hX9 hB9 ⊢
                      clear x0 x1 x2 x3 x4 f4 HX HBC
                      have HX := hid (show XB W9 z ⟨z0, y % 16, y / 16, signR u2 2, M⟩ from hX9)
                      have HBC := hid hB9
                      clear hX9 hB9
                      have HCK := hid (fun w => check_any z0 (y % 16) (y / 16) (signR u2 2) (M) w)
                      obtain ⟨q, hq⟩ : ∃ q, Insn.chk z0 (y % 16) (y / 16) (signR u2 2) (M) = q := ⟨_, rfl⟩
                      have HE : Hid (errFirst (zs.drop t) = q) := hid (HEC.out.trans (by rw [HD.out]; exact hq))
                      rw [hq] at HCK
                      unfold insnV at HCK
                      clear hq HEC
                      obtain ⟨x0, x1, x2, x3, x4⟩ := HX.out.cells
                      simp only at x0 x1 x2 x3 x4
                      refine (HCK.out _).mono ?_
                      rintro e w2 ⟨rfl, hb2⟩
                      have HX2 := hid (show XB w2 z _ from (hb2.block z HX.out.lt).trans HX.out)
                      have HB2 := hid (HBC.out.trans (hb2.mono HBC.out.size))
                      have hs2 := HB2.out.size
                      clear hb2 x0 x1 x2 x3 x4 HCK
                      by_cases hq0 : q = 0
                      · have HT2 := hid (turn_step HT.out HNIL.out h256 (HE.out.trans hq0))
                        rw [HD.out, HOP.out, List.drop_drop, show t + lenI z0 = t + 16 by unfold lenI; rw [if_pos H24.out]] at HT2
                        have bq : (q != 0) = false := by simp [hq0]
                        clear hq0 HE
                        have HO2 := hid (HO.out.kept (grown_of2 HB2.out) (Classical.em _))
                        have HBW2 := hid (HB.out.trans (HB2.out.mono hsz))
                        have hsw2 := HBW2.out.size
                        obtain ⟨x0, x1, x2, x3, x4⟩ := HX2.out.cells
                        simp only at x0 x1 x2 x3 x4
                        have hsn : VN acc ++ [.int .i64 z0, .int .i64 (y % 16), .int .i64 (y / 16), .int .i64 (signR u2 2), .int .i64 (M)] = VN (acc ++ [⟨z0, y % 16, y / 16, signR u2 2, M⟩]) := by rw [VN_append]; rfl
                        have HS := hid hsn
                        have hn : (acc ++ [In.mk z0 (y % 16) (y / 16) (signR u2 2) (M)]).length = acc.length + 1 := by simp
                        have HN := hid hn
                        clear hsn hn
                        go_wp2_with (at_builtin; refine wpList_append_own _ rfl _ _ 31 rfl w.heap.size 23 i0 (.agg #[.int .i64 0, .int .i64 0, .int .i64 0, .int .i64 0, .int .i64 0]) 5 40 Try.underlying31 hi hz0 hz1 hz2 rfl (by decide) _ _ _ rfl (HO2.out.alloc _) ⟨w2.heap.size, 0, none⟩ 1 1 [.int .i64 z0, .int .i64 (y % 16), .int .i64 (y / 16), .int .i64 (signR u2 2), .int .i64 (M)] rfl rfl ?c1 ?c2 ?c3 ?c4 ?c5 ?_)
                        case c1 => exact five_new w2 23 _ _ _ _ _
                        case c2 => exact five_one _ _ _ _ _
                        case c3 => unfold maxLen; omega
                        case c4 => omega
                        case c5 => simp; omega
                        intro v' w3 hown3 hgrow _
                        have hb3 : Below w.heap.size w w3 := (HBW2.out.alloc hsw2 _).grown hgrow (by simp; omega) (fun k hk => (HO2.out.lt k hk).1)
                        rw [HS.out, ← HN.out] at hown3
                        obtain ⟨oa', oc', rfl, _⟩ := own_argN hown3
                        have HO3 := hid hown3
                        have HB3 := hid hb3
                        rw [HN.out]
                        clear hown3 hgrow hb3 x0 x1 x2 x3 x4
                        go_wp2_with fail
                        go_roundw
                        case rel => exact ⟨t + 16, _, oa', oc', by go_num, by rw [HN.out], by omega, HT2, by rw [← HN.out]; exact HO3.out, HB3.out⟩
                        case measure => simp [intOf]; omega
                      · have HF := hid (HBAD.out w2 q (by rw [turn_err HT.out HNIL.out h256 (by rw [HE.out]; exact hq0), HE.out]) (HB.out.trans (HB2.out.mono hsz)))
                        have bq : (q != 0) = true := by simpa using hq0
                        clear hq0 HE
                        go_wp2_with fail
                        go_ret2
                        exact HF.out
                    · have bq3 : (q3 != 0) = true := by simpa using e3
                      have HE9 := hid (show errFirst (zs.drop t) = 9 from HEZ.out (by rw [numAt_4, show t + 8 + 1 = t + 9 from rfl, show t + 8 + 2 = t + 10 from rfl, show t + 8 + 3 = t + 11 from rfl, HQ0.out, HQ1.out, HQ2.out, HQ3.out]; omega))
                      have HF := hid (HBAD.out wc 9 (by rw [turn_err HT.out HNIL.out h256 (by rw [HE9.out]; decide), HE9.out]) (HB.out.trans (HBC.out.mono hsz)))
                      go_wp2_with fail
                      go_ret2
                      exact HF.out
                  · have bq2 : (q2 != 0) = true := by simpa using e2
                    have HE9 := hid (show errFirst (zs.drop t) = 9 from HEZ.out (by rw [numAt_4, show t + 8 + 1 = t + 9 from rfl, show t + 8 + 2 = t + 10 from rfl, show t + 8 + 3 = t + 11 from rfl, HQ0.out, HQ1.out, HQ2.out, HQ3.out]; omega))
                    have HF := hid (HBAD.out wc 9 (by rw [turn_err HT.out HNIL.out h256 (by rw [HE9.out]; decide), HE9.out]) (HB.out.trans (HBC.out.mono hsz)))
                    go_wp2_with fail
                    go_ret2
                    exact HF.out
                · have bq1 : (q1 != 0) = true := by simpa using e1
                  have HE9 := hid (show errFirst (zs.drop t) = 9 from HEZ.out (by rw [numAt_4, show t + 8 + 1 = t + 9 from rfl, show t + 8 + 2 = t + 10 from rfl, show t + 8 + 3 = t + 11 from rfl, HQ0.out, HQ1.out, HQ2.out, HQ3.out]; omega))
                  have HF := hid (HBAD.out wc 9 (by rw [turn_err HT.out HNIL.out h256 (by rw [HE9.out]; decide), HE9.out]) (HB.out.trans (HBC.out.mono hsz)))
                  go_wp2_with fail
                  go_ret2
                  exact HF.out
              · have bq0 : (q0 != 0) = true := by simpa using e0
                have HE9 := hid (show errFirst (zs.drop t) = 9 from HEZ.out (by rw [numAt_4, show t + 8 + 1 = t + 9 from rfl, show t + 8 + 2 = t + 10 from rfl, show t + 8 + 3 = t + 11 from rfl, HQ0.out, HQ1.out, HQ2.out, HQ3.out]; omega))
                have HF := hid (HBAD.out wc 9 (by rw [turn_err HT.out HNIL.out h256 (by rw [HE9.out]; decide), HE9.out]) (HB.out.trans (HBC.out.mono hsz)))
                go_wp2_with fail
                go_ret2
                exact HF.out
          · have b24 : (z0 == 24) = false := by simp [h24]
            have H24 := hid h24
            clear h24 h8 hs hd hd1 b256
            have HEC := hid (show errFirst (zs.drop t) = (decIn (zs.drop t)).chk by unfold errFirst; rw [HOP.out, if_neg (fun e => HSS.out (by rw [HLD.out] at e; exact e)), if_neg (fun e => H24.out e.1)])
            have HD := hid (show decIn (zs.drop t) = ⟨z0, y % 16, y / 16, signR u2 2, signR u4 4⟩ by unfold decIn; rw [HOP.out, if_neg H24.out, getD_dropI, HY.out, numAt_drop, numAt_drop, HU2.out, HU4.out])
            go_upto_region 9 with fail
            go_cut [7] (fun p wx => CutF wr z0 (y % 16) (y / 16) (signR u2 2) (signR u4 4) p wx)
            case first =>
              have HCa := hid (show IntKind.i64.wrap z0 = z0 from IntWalk.i64_in _ (by omega))
              have HCb := hid (show IntKind.i64.wrap y = y from IntWalk.i64_in _ (by omega))
              have HCc := hid (show y.tmod 16 = y % 16 from Int.tmod_eq_emod_of_nonneg y0)
              have HCd := hid (show IntKind.i64.wrap (y.tdiv 16) = y / 16 by rw [Int.tdiv_eq_ediv_of_nonneg y0]; exact IntWalk.i64_in _ (by omega))
              have HUP := hid (ups_below (B := wr.heap.size) (w := wr) (Nat.le_refl _))
              have hn0 : 0 ≤ (t : Int) := Int.natCast_nonneg t
              have hn1 : 0 ≤ (t : Int) + 1 := near_pos t
              have ht1 : ((t : Int) + 1).toNat = t + 1 := rfl
              have hi0 : (t : Int) < (len0 : Int) := near_lt (k := 0) (by omega)
              have hi1 : (t : Int) + 1 < (len0 : Int) := near_lt (k := 1) (by omega)
              have htt : t ≤ 8192 := by omega
              have hw1 : IntKind.i64.wrap ((t : Int) + 1) = (t : Int) + 1 := near_wrap htt 1 (by decide)
              have hw2 : IntKind.i64.wrap ((t : Int) + 2) = (t : Int) + 2 := near_wrap htt 2 (by decide)
              have hw4 : IntKind.i64.wrap ((t : Int) + 4) = (t : Int) + 4 := near_wrap htt 4 (by decide)
              refine up_begin (Below wr.heap.size wr) 30 rfl (by kernel_rfl) ((Below.refl _ _).drew) ?_
              refine take_val (i := 0) HUP.out rfl rfl (by kernel_rfl) (fun _ _ _ h => h) (by rfl) (by intro x hx; go_simp; (first | done | exact rfl)) ?_
              simp only [List.set_cons_succ, List.set_cons_zero]
              refine take_val (i := 1) HUP.out rfl rfl (by kernel_rfl) (fun _ _ _ h => h) (by rfl) (by intro x hx; go_simp; (first | done | exact rfl)) ?_
              simp only [List.set_cons_succ, List.set_cons_zero]
              refine take_val (i := 2) HUP.out rfl rfl (by kernel_rfl) (fun _ _ _ h => h) (by rfl) (by intro x hx; have e0 := (hx.cell (p := ⟨b, off + t, none⟩) hbw).trans c0; have e1 := (hx.cell (p := ⟨b, off + (t + 1), none⟩) hbw).trans c1; go_simp; (first | done | exact rfl)) ?_
              simp only [List.set_cons_succ, List.set_cons_zero]
              refine take_val (i := 3) HUP.out rfl rfl (by kernel_rfl) (fun _ _ _ h => h) (by rfl) (by intro x hx; have e0 := (hx.cell (p := ⟨b, off + t, none⟩) hbw).trans c0; have e1 := (hx.cell (p := ⟨b, off + (t + 1), none⟩) hbw).trans c1; go_simp; (first | done | exact rfl)) ?_
              simp only [List.set_cons_succ, List.set_cons_zero]
              refine take_val (i := 4) HUP.out rfl rfl (by kernel_rfl) (fun _ _ _ h => h) (by rfl) (by intro x hx; go_simp; (first | rw [hw1] | rw [hw2] | rw [hw4] | rw [HCa.out] | rw [HCb.out] | rw [HCc.out] | rw [HCd.out] | skip); (first | done | exact rfl)) ?_
              simp only [List.set_cons_succ, List.set_cons_zero]
              refine take_val (i := 5) HUP.out rfl rfl (by kernel_rfl) (fun _ _ _ h => h) (by rfl) (by intro x hx; go_simp; (first | done | exact rfl)) ?_
              simp only [List.set_cons_succ, List.set_cons_zero]
              refine take_val (i := 6) HUP.out rfl rfl (by kernel_rfl) (fun _ _ _ h => h) (by rfl) (by intro x hx; go_simp; (first | done | exact rfl)) ?_
              simp only [List.set_cons_succ, List.set_cons_zero]
              refine take_val (i := 7) HUP.out rfl rfl (by kernel_rfl) (fun _ _ _ h => h) (by rfl) (by intro x hx; go_simp; (first | rw [hw1] | rw [hw2] | rw [hw4] | rw [HCa.out] | rw [HCb.out] | rw [HCc.out] | rw [HCd.out] | skip); (first | done | exact rfl)) ?_
              simp only [List.set_cons_succ, List.set_cons_zero]
              refine take_val (i := 8) HUP.out rfl rfl (by kernel_rfl) (fun _ _ _ h => h) (by rfl) (by intro x hx; have e0 := (hx.cell (p := ⟨b, off + t, none⟩) hbw).trans c0; have e1 := (hx.cell (p := ⟨b, off + (t + 1), none⟩) hbw).trans c1; go_simp; (first | done | exact rfl)) ?_
              simp only [List.set_cons_succ, List.set_cons_zero]
              refine take_val (i := 9) HUP.out rfl rfl (by kernel_rfl) (fun _ _ _ h => h) (by rfl) (by intro x hx; have e0 := (hx.cell (p := ⟨b, off + t, none⟩) hbw).trans c0; have e1 := (hx.cell (p := ⟨b, off + (t + 1), none⟩) hbw).trans c1; go_simp; (first | done | exact rfl)) ?_
              simp only [List.set_cons_succ, List.set_cons_zero]
              refine take_val (i := 10) HUP.out rfl rfl (by kernel_rfl) (fun _ _ _ h => h) (by rfl) (by intro x hx; go_simp; (first | rw [hw1] | rw [hw2] | rw [hw4] | rw [HCa.out] | rw [HCb.out] | rw [HCc.out] | rw [HCd.out] | skip); (first | done | exact rfl)) ?_
              simp only [List.set_cons_succ, List.set_cons_zero]
              refine take_val (i := 11) HUP.out rfl rfl (by kernel_rfl) (fun _ _ _ h => h) (by rfl) (by intro x hx; go_simp; (first | rw [hw1] | rw [hw2] | rw [hw4] | rw [HCa.out] | rw [HCb.out] | rw [HCc.out] | rw [HCd.out] | skip); (first | done | exact rfl)) ?_
              simp only [List.set_cons_succ, List.set_cons_zero]
              refine take_val (i := 12) HUP.out rfl rfl (by kernel_rfl) (fun _ _ _ h => h) (by rfl) (by intro x hx; go_simp; (first | done | exact rfl)) ?_
              simp only [List.set_cons_succ, List.set_cons_zero]
              refine take_val (i := 13) HUP.out rfl rfl (by kernel_rfl) (fun _ _ _ h => h) (by rfl) (by intro x hx; go_simp; (first | done | exact rfl)) ?_
              simp only [List.set_cons_succ, List.set_cons_zero]
              refine take_val (i := 14) HUP.out rfl rfl (by kernel_rfl) (fun _ _ _ h => h) (by rfl) (by intro x hx; go_simp; (first | rw [hw1] | rw [hw2] | rw [hw4] | rw [HCa.out] | rw [HCb.out] | rw [HCc.out] | rw [HCd.out] | skip); (first | done | exact rfl)) ?_
              simp only [List.set_cons_succ, List.set_cons_zero]
              refine take_val (i := 15) HUP.out rfl rfl (by kernel_rfl) (fun _ _ _ h => h) (by rfl) (by intro x hx; have e0 := (hx.cell (p := ⟨b, off + t, none⟩) hbw).trans c0; have e1 := (hx.cell (p := ⟨b, off + (t + 1), none⟩) hbw).trans c1; go_simp; (first | done | exact rfl)) ?_
              simp only [List.set_cons_succ, List.set_cons_zero]
              refine take_val (i := 16) HUP.out rfl rfl (by kernel_rfl) (fun _ _ _ h => h) (by rfl) (by intro x hx; have e0 := (hx.cell (p := ⟨b, off + t, none⟩) hbw).trans c0; have e1 := (hx.cell (p := ⟨b, off + (t + 1), none⟩) hbw).trans c1; go_simp; (first | done | exact rfl)) ?_
              simp only [List.set_cons_succ, List.set_cons_zero]
              refine take_val (i := 17) HUP.out rfl rfl (by kernel_rfl) (fun _ _ _ h => h) (by rfl) (by intro x hx; go_simp; (first | rw [hw1] | rw [hw2] | rw [hw4] | rw [HCa.out] | rw [HCb.out] | rw [HCc.out] | rw [HCd.out] | skip); (first | done | exact rfl)) ?_
              simp only [List.set_cons_succ, List.set_cons_zero]
              refine take_val (i := 18) HUP.out rfl rfl (by kernel_rfl) (fun _ _ _ h => h) (by rfl) (by intro x hx; go_simp; (first | rw [hw1] | rw [hw2] | rw [hw4] | rw [HCa.out] | rw [HCb.out] | rw [HCc.out] | rw [HCd.out] | skip); (first | done | exact rfl)) ?_
              simp only [List.set_cons_succ, List.set_cons_zero]
              refine take_val (i := 19) HUP.out rfl rfl (by kernel_rfl) (fun _ _ _ h => h) (by rfl) (by intro x hx; go_simp; (first | done | exact rfl)) ?_
              simp only [List.set_cons_succ, List.set_cons_zero]
              refine take_val (i := 20) HUP.out rfl rfl (by kernel_rfl) (fun _ _ _ h => h) (by rfl) (by intro x hx; go_simp; (first | done | exact rfl)) ?_
              simp only [List.set_cons_succ, List.set_cons_zero]
              refine take_val (i := 21) HUP.out rfl rfl (by kernel_rfl) (fun _ _ _ h => h) (by rfl) (by intro x hx; go_simp; (first | rw [hw1] | rw [hw2] | rw [hw4] | rw [HCa.out] | rw [HCb.out] | rw [HCc.out] | rw [HCd.out] | skip); (first | done | exact rfl)) ?_
              simp only [List.set_cons_succ, List.set_cons_zero]
              refine take_call (i := 22) (f := 48) (args := #[.slice (some ⟨b, off, none⟩) len0 cap0, .int .i64 ((t : Int) + 2), .int .i64 2]) HUP.out rfl rfl (by kernel_rfl) (fun _ _ _ h => h) (by rfl) (fun x hx => by kernel_rfl) (by intro x hx; have e0 := (hx.cell (p := ⟨b, off + t, none⟩) hbw).trans c0; have e1 := (hx.cell (p := ⟨b, off + (t + 1), none⟩) hbw).trans c1; exact sg2 (by omega) HZ.out (row_up HR.out hx hbw) hk4 HU2.out) ?_
              simp only [List.set_cons_succ, List.set_cons_zero]
              refine take_val (i := 23) HUP.out rfl rfl (by kernel_rfl) (fun _ _ _ h => h) (by rfl) (by intro x hx; go_simp; (first | done | exact rfl)) ?_
              simp only [List.set_cons_succ, List.set_cons_zero]
              refine take_val (i := 24) HUP.out rfl rfl (by kernel_rfl) (fun _ _ _ h => h) (by rfl) (by intro x hx; go_simp; (first | done | exact rfl)) ?_
              simp only [List.set_cons_succ, List.set_cons_zero]
              refine take_val (i := 25) HUP.out rfl rfl (by kernel_rfl) (fun _ _ _ h => h) (by rfl) (by intro x hx; go_simp; (first | rw [hw1] | rw [hw2] | rw [hw4] | rw [HCa.out] | rw [HCb.out] | rw [HCc.out] | rw [HCd.out] | skip); (first | done | exact rfl)) ?_
              simp only [List.set_cons_succ, List.set_cons_zero]
              refine take_call (i := 26) (f := 48) (args := #[.slice (some ⟨b, off, none⟩) len0 cap0, .int .i64 ((t : Int) + 4), .int .i64 4]) HUP.out rfl rfl (by kernel_rfl) (fun _ _ _ h => h) (by rfl) (fun x hx => by kernel_rfl) (by intro x hx; have e0 := (hx.cell (p := ⟨b, off + t, none⟩) hbw).trans c0; have e1 := (hx.cell (p := ⟨b, off + (t + 1), none⟩) hbw).trans c1; exact sg4 (by omega) HZ.out (row_up HR.out hx hbw) hk8 HU4.out) ?_
              simp only [List.set_cons_succ, List.set_cons_zero]
              refine take_val (i := 27) HUP.out rfl rfl (by kernel_rfl) (fun _ _ _ h => h) (by rfl) (by intro x hx; go_simp; (first | done | exact rfl)) ?_
              simp only [List.set_cons_succ, List.set_cons_zero]
              refine take_one (i := 28) (by kernel_rfl) (step_make_as HUP.out rfl rfl (by rfl) (.cells #[.int .i64 0, .int .i64 0, .int .i64 0, .int .i64 0, .int .i64 0] 23 (0, 0)) (fun k => .pointer (some ⟨k, 0, none⟩)) (R5 wr.heap.size) (r5_ups _) (fun x hx => r5_new hx.size) (by intro x hx; have e0 := (hx.cell (p := ⟨b, off + t, none⟩) hbw).trans c0; have e1 := (hx.cell (p := ⟨b, off + (t + 1), none⟩) hbw).trans c1; go_simp; (first | done | exact rfl)) (fun k0 => ?_))
              simp only [List.set_cons_succ, List.set_cons_zero]
              refine take_one (i := 29) (by kernel_rfl) (step_store (fun x => Below wr.heap.size wr x ∧ (wr.heap.size ≤ k0 ∧ XB x k0 ⟨z0, y % 16, y / 16, signR u2 2, signR u4 4⟩)) (ups_and (ups_below (Nat.le_refl _)) (xb_ups _ _ _)) (fun x hx => ⟨hx.1, hx.2.1, _, _, _, _, _, hx.2.2⟩) rfl rfl (by rfl) (Put5 k0 (.int .i64 z0) (.int .i64 (y % 16)) (.int .i64 (y / 16)) (.int .i64 (signR u2 2)) (.int .i64 (signR u4 4))) (by intro x hx; obtain ⟨hx, r5⟩ := hx; have e0 := (hx.cell (p := ⟨b, off + t, none⟩) hbw).trans c0; have e1 := (hx.cell (p := ⟨b, off + (t + 1), none⟩) hbw).trans c1; obtain ⟨q0, q1, q2, q3, q4, x0, x1, x2, x3, x4, f0, f1, f2, f3, f4⟩ := five_facts r5.2; go_simp; (first | done | rfl)) (by intro x hx; exact put5_keeps ⟨z0, y % 16, y / 16, signR u2 2, signR u4 4⟩ x hx) ?_)
              refine take_done (by kernel_rfl) ?_ _
              intro x hx
              go_wp2_with fail
              go_meet
              exact ⟨k0, rfl, hx.2.2, hx.2.1, hx.1⟩
            case rest =>
              obtain ⟨z, rfl, hx, hzz, hB⟩ := hcut
              have HX := hid hx
              have HBC := hid hB
              clear hx hB
              have HCK := hid (fun w => check_any z0 (y % 16) (y / 16) (signR u2 2) (signR u4 4) w)
              obtain ⟨q, hq⟩ : ∃ q, Insn.chk z0 (y % 16) (y / 16) (signR u2 2) (signR u4 4) = q := ⟨_, rfl⟩
              have HE : Hid (errFirst (zs.drop t) = q) := hid (HEC.out.trans (by rw [HD.out]; exact hq))
              rw [hq] at HCK
              unfold insnV at HCK
              clear hq HEC
              obtain ⟨x0, x1, x2, x3, x4⟩ := HX.out.cells
              simp only at x0 x1 x2 x3 x4
              go_wp2_with fail
              refine (HCK.out _).mono ?_
              rintro e w2 ⟨rfl, hb2⟩
              have HX2 := hid (show XB w2 z _ from (hb2.block z HX.out.lt).trans HX.out)
              have HB2 := hid (HBC.out.trans (hb2.mono HBC.out.size))
              have hs2 := HB2.out.size
              clear hb2 x0 x1 x2 x3 x4 HCK
              by_cases hq0 : q = 0
              · have HT2 := hid (turn_step HT.out HNIL.out h256 (HE.out.trans hq0))
                rw [HD.out, HOP.out, List.drop_drop, show t + lenI z0 = t + 8 by unfold lenI; rw [if_neg H24.out]] at HT2
                have bq : (q != 0) = false := by simp [hq0]
                clear hq0 HE
                have HO2 := hid (HO.out.kept (grown_of2 HB2.out) (Classical.em _))
                have HBW2 := hid (HB.out.trans (HB2.out.mono hsz))
                have hsw2 := HBW2.out.size
                obtain ⟨x0, x1, x2, x3, x4⟩ := HX2.out.cells
                simp only at x0 x1 x2 x3 x4
                have hsn : VN acc ++ [.int .i64 z0, .int .i64 (y % 16), .int .i64 (y / 16), .int .i64 (signR u2 2), .int .i64 (signR u4 4)] = VN (acc ++ [⟨z0, y % 16, y / 16, signR u2 2, signR u4 4⟩]) := by rw [VN_append]; rfl
                have HS := hid hsn
                have hn : (acc ++ [In.mk z0 (y % 16) (y / 16) (signR u2 2) (signR u4 4)]).length = acc.length + 1 := by simp
                have HN := hid hn
                clear hsn hn
                go_wp2_with (at_builtin; refine wpList_append_own _ rfl _ _ 31 rfl w.heap.size 23 i0 (.agg #[.int .i64 0, .int .i64 0, .int .i64 0, .int .i64 0, .int .i64 0]) 5 40 Try.underlying31 hi hz0 hz1 hz2 rfl (by decide) _ _ _ rfl (HO2.out.alloc _) ⟨w2.heap.size, 0, none⟩ 1 1 [.int .i64 z0, .int .i64 (y % 16), .int .i64 (y / 16), .int .i64 (signR u2 2), .int .i64 (signR u4 4)] rfl rfl ?c1 ?c2 ?c3 ?c4 ?c5 ?_)
                case c1 => exact five_new w2 23 _ _ _ _ _
                case c2 => exact five_one _ _ _ _ _
                case c3 => unfold maxLen; omega
                case c4 => omega
                case c5 => simp; omega
                intro v' w3 hown3 hgrow _
                have hb3 : Below w.heap.size w w3 := (HBW2.out.alloc hsw2 _).grown hgrow (by simp; omega) (fun k hk => (HO2.out.lt k hk).1)
                rw [HS.out, ← HN.out] at hown3
                obtain ⟨oa', oc', rfl, _⟩ := own_argN hown3
                have HO3 := hid hown3
                have HB3 := hid hb3
                rw [HN.out]
                clear hown3 hgrow hb3 x0 x1 x2 x3 x4
                go_wp2_with fail
                go_roundw
                case rel => exact ⟨t + 8, _, oa', oc', by go_num, by rw [HN.out], by omega, HT2, by rw [← HN.out]; exact HO3.out, HB3.out⟩
                case measure => simp [intOf]; omega
              · have HF := hid (HBAD.out w2 q (by rw [turn_err HT.out HNIL.out h256 (by rw [HE.out]; exact hq0), HE.out]) (HB.out.trans (HB2.out.mono hsz)))
                have bq : (q != 0) = true := by simpa using hq0
                clear hq0 HE
                go_wp2_with fail
                go_ret2
                exact HF.out
    · have hd : decide ((t : Int) < (len0 : Int)) = false := by simp; omega
      have hzn : zs.drop t = [] := List.length_eq_zero_iff.1 (by rw [HLD.out]; omega)
      have HF := hid (HG.out wr acc _ (turn_end HT.out hzn) HO.out HB.out)
      clear hzn
      go_wp2_with fail
      go_ret2
      exact HF.out
end Go.Proofs.Ytccjfnkneiggcaa.Insn
