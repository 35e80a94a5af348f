/-
  The walk of the law InsnKnown: the chapter's examples, how many opcodes there are, what is wrong with some instructions, and the ends.
-/
import Derived.Test.YtccjfnkneiggcaaKnownC
import Derived.Deep.RegionHeld3
import Derived.Deep.DeepCutAuto
namespace Go.Proofs.Ytccjfnkneiggcaa.Insn
open Go.RowKit Go.Proofs.Ytccjfnkneiggcaa.Num Go.Proofs.Ytccjfnkneiggcaa.ListB
set_option maxHeartbeats 4000000 in
set_option maxRecDepth 100000 in
theorem insnKnown (w : World) : Calls Try.prog 8 #[] w fun e w' => e = .returned (.bool true) ∧ Below w.heap.size w w' := by
  have HY1 := hid (bytes_lit ⟨107, 10, 3, -8, 0⟩ [107, 58, 248, 255, 0, 0, 0, 0] #[.int .u8 107, .int .u8 58, .int .u8 248, .int .u8 255, .int .u8 0, .int .u8 0, .int .u8 0, .int .u8 0] 8 (known_wf _ _ _ _ _ (by omega)) (by kernel_rfl) (by kernel_rfl) rfl rfl)
  have HY2 := hid (bytes_lit ⟨24, 1, 1, 0, 4⟩ [24, 17, 0, 0, 4, 0, 0, 0, 0, 0, 0, 0, 0, 0, 0, 0] #[.int .u8 24, .int .u8 17, .int .u8 0, .int .u8 0, .int .u8 4, .int .u8 0, .int .u8 0, .int .u8 0, .int .u8 0, .int .u8 0, .int .u8 0, .int .u8 0, .int .u8 0, .int .u8 0, .int .u8 0, .int .u8 0] 16 (known_wf _ _ _ _ _ (by omega)) (by kernel_rfl) (by kernel_rfl) rfl rfl)
  have HY3 := hid (bytes_lit ⟨219, 0, 0, 0, 241⟩ [219, 0, 0, 0, 241, 0, 0, 0] #[.int .u8 219, .int .u8 0, .int .u8 0, .int .u8 0, .int .u8 241, .int .u8 0, .int .u8 0, .int .u8 0] 8 (known_wf _ _ _ _ _ (by omega)) (by kernel_rfl) (by kernel_rfl) rfl rfl)
  have HY4 := hid (bytes_lit ⟨24, 0, 0, 0, -2⟩ [24, 0, 0, 0, 254, 255, 255, 255, 0, 0, 0, 0, 255, 255, 255, 255] #[.int .u8 24, .int .u8 0, .int .u8 0, .int .u8 0, .int .u8 254, .int .u8 255, .int .u8 255, .int .u8 255, .int .u8 0, .int .u8 0, .int .u8 0, .int .u8 0, .int .u8 255, .int .u8 255, .int .u8 255, .int .u8 255] 16 (known_wf _ _ _ _ _ (by omega)) (by kernel_rfl) (by kernel_rfl) rfl rfl)
  have HM1 := hid (show KMany 7 0 0 0 16 12 from many_at 7 0 0 0 0 16 12 (by kernel_rfl))
  have HM2 := hid (show KMany 7 0 3 0 0 12 from many_at 7 0 0 3 0 0 12 (by kernel_rfl))
  have HM3 := hid (show KMany 4 0 3 0 0 12 from many_at 4 0 0 3 0 0 12 (by kernel_rfl))
  have HM4 := hid (show KMany 4 0 0 0 16 14 from many_at 4 0 0 0 0 16 14 (by kernel_rfl))
  have HM5 := hid (show KMany 5 0 0 0 16 12 from many_at 5 0 0 0 0 16 12 (by kernel_rfl))
  have HM6 := hid (show KMany 5 0 3 0 0 11 from many_at 5 0 0 3 0 0 11 (by kernel_rfl))
  have HM7 := hid (show KMany 6 0 0 0 16 11 from many_at 6 0 0 0 0 16 11 (by kernel_rfl))
  have HM8 := hid (show KMany 6 0 3 0 0 11 from many_at 6 0 0 3 0 0 11 (by kernel_rfl))
  have HM9 := hid (show KMany 1 0 3 0 0 4 from many_at 1 0 0 3 0 0 4 (by kernel_rfl))
  have HM10 := hid (show KMany 2 0 0 0 16 4 from many_at 2 0 0 0 0 16 4 (by kernel_rfl))
  have HM11 := hid (show KMany 3 0 3 0 0 6 from many_at 3 0 0 3 0 0 6 (by kernel_rfl))
  have HM12 := hid (show KMany 0 0 0 0 16 1 from many_at 0 0 0 0 0 16 1 (by kernel_rfl))
  unfold insnV at HY1 HY2 HY3 HY4
  unfold KMany at HM1 HM2 HM3 HM4 HM5 HM6 HM7 HM8 HM9 HM10 HM11 HM12
  go_enter Try.func8, Try.ntmps8
  go_wp2_with fail
  refine (HY1.out _).mono ?_
  rintro e w1 ⟨rfl, hb1⟩
  have HB1 := hid hb1
  clear hb1 HY1
  go_wp2_with fail
  refine (HY2.out _).mono ?_
  rintro e w2 ⟨rfl, hb2⟩
  have HB2 := hid (HB1.out.trans (hb2.mono HB1.out.size))
  clear hb2 HY2
  go_wp2_with fail
  refine (HY3.out _).mono ?_
  rintro e w3 ⟨rfl, hb3⟩
  have HB3 := hid (HB2.out.trans (hb3.mono HB2.out.size))
  clear hb3 HY3
  go_wp2_with fail
  refine (HY4.out _).mono ?_
  rintro e w4 ⟨rfl, hb4⟩
  have HB4 := hid (HB3.out.trans (hb4.mono HB3.out.size))
  clear hb4 HY4
  go_upto_region 5 with fail
  have hks := KS.new w4
  generalize (w4.alloc (.cells #[.int .i64 0, .int .i64 0, .int .i64 0, .int .i64 0, .int .i64 16] 23)).alloc (.cells #[.int .i64 0, .int .i64 0, .int .i64 3, .int .i64 0, .int .i64 0] 23) = W0 at hks ⊢
  have HK0 := hid hks
  clear hks
  obtain ⟨b1, hb1⟩ : ∃ b, w4.heap.size = b := ⟨_, rfl⟩
  rw [hb1] at HK0 ⊢
  clear hb1
  obtain ⟨⟨x0, x1, x2, x3, x4⟩, ⟨y0, y1, y2, y3, y4⟩⟩ := HK0.out.cells
  go_wp2_with fail
  refine (HM1.out _).mono ?_
  rintro e W1 ⟨rfl, hbj⟩
  have HK1 := hid (HK0.out.up hbj)
  clear x0 x1 x2 x3 x4 y0 y1 y2 y3 y4 hbj HM1 HK0
  obtain ⟨⟨x0, x1, x2, x3, x4⟩, ⟨y0, y1, y2, y3, y4⟩⟩ := HK1.out.cells
  go_wp2_with fail
  refine (HM2.out _).mono ?_
  rintro e W2 ⟨rfl, hbj⟩
  have HK2 := hid (HK1.out.up hbj)
  clear x0 x1 x2 x3 x4 y0 y1 y2 y3 y4 hbj HM2 HK1
  obtain ⟨⟨x0, x1, x2, x3, x4⟩, ⟨y0, y1, y2, y3, y4⟩⟩ := HK2.out.cells
  go_wp2_with fail
  refine (HM3.out _).mono ?_
  rintro e W3 ⟨rfl, hbj⟩
  have HK3 := hid (HK2.out.up hbj)
  clear x0 x1 x2 x3 x4 y0 y1 y2 y3 y4 hbj HM3 HK2
  obtain ⟨⟨x0, x1, x2, x3, x4⟩, ⟨y0, y1, y2, y3, y4⟩⟩ := HK3.out.cells
  go_wp2_with fail
  refine (HM4.out _).mono ?_
  rintro e W4 ⟨rfl, hbj⟩
  have HK4 := hid (HK3.out.up hbj)
  clear x0 x1 x2 x3 x4 y0 y1 y2 y3 y4 hbj HM4 HK3
  obtain ⟨⟨x0, x1, x2, x3, x4⟩, ⟨y0, y1, y2, y3, y4⟩⟩ := HK4.out.cells
  go_wp2_with fail
  refine (HM5.out _).mono ?_
  rintro e W5 ⟨rfl, hbj⟩
  have HK5 := hid (HK4.out.up hbj)
  clear x0 x1 x2 x3 x4 y0 y1 y2 y3 y4 hbj HM5 HK4
  obtain ⟨⟨x0, x1, x2, x3, x4⟩, ⟨y0, y1, y2, y3, y4⟩⟩ := HK5.out.cells
  go_wp2_with fail
  refine (HM6.out _).mono ?_
  rintro e W6 ⟨rfl, hbj⟩
  have HK6 := hid (HK5.out.up hbj)
  clear x0 x1 x2 x3 x4 y0 y1 y2 y3 y4 hbj HM6 HK5
  obtain ⟨⟨x0, x1, x2, x3, x4⟩, ⟨y0, y1, y2, y3, y4⟩⟩ := HK6.out.cells
  go_wp2_with fail
  refine (HM7.out _).mono ?_
  rintro e W7 ⟨rfl, hbj⟩
  have HK7 := hid (HK6.out.up hbj)
  clear x0 x1 x2 x3 x4 y0 y1 y2 y3 y4 hbj HM7 HK6
  obtain ⟨⟨x0, x1, x2, x3, x4⟩, ⟨y0, y1, y2, y3, y4⟩⟩ := HK7.out.cells
  go_wp2_with fail
  refine (HM8.out _).mono ?_
  rintro e W8 ⟨rfl, hbj⟩
  have HK8 := hid (HK7.out.up hbj)
  clear x0 x1 x2 x3 x4 y0 y1 y2 y3 y4 hbj HM8 HK7
  obtain ⟨⟨x0, x1, x2, x3, x4⟩, ⟨y0, y1, y2, y3, y4⟩⟩ := HK8.out.cells
  go_wp2_with fail
  refine (HM9.out _).mono ?_
  rintro e W9 ⟨rfl, hbj⟩
  have HK9 := hid (HK8.out.up hbj)
  clear x0 x1 x2 x3 x4 y0 y1 y2 y3 y4 hbj HM9 HK8
  obtain ⟨⟨x0, x1, x2, x3, x4⟩, ⟨y0, y1, y2, y3, y4⟩⟩ := HK9.out.cells
  go_wp2_with fail
  refine (HM10.out _).mono ?_
  rintro e W10 ⟨rfl, hbj⟩
  have HK10 := hid (HK9.out.up hbj)
  clear x0 x1 x2 x3 x4 y0 y1 y2 y3 y4 hbj HM10 HK9
  obtain ⟨⟨x0, x1, x2, x3, x4⟩, ⟨y0, y1, y2, y3, y4⟩⟩ := HK10.out.cells
  go_wp2_with fail
  refine (HM11.out _).mono ?_
  rintro e W11 ⟨rfl, hbj⟩
  have HK11 := hid (HK10.out.up hbj)
  clear x0 x1 x2 x3 x4 y0 y1 y2 y3 y4 hbj HM11 HK10
  obtain ⟨⟨x0, x1, x2, x3, x4⟩, ⟨y0, y1, y2, y3, y4⟩⟩ := HK11.out.cells
  go_wp2_with fail
  refine (HM12.out _).mono ?_
  rintro e W12 ⟨rfl, hbj⟩
  have HK12 := hid (HK11.out.up hbj)
  clear x0 x1 x2 x3 x4 y0 y1 y2 y3 y4 hbj HM12 HK11
  have HB5 := hid (HB4.out.trans (HK12.out.2.2.mono HB4.out.size))
  clear HK12
  go_upto_region 9 with fail
  have hts := TS.new W12
  generalize (W12.alloc (.cells #[.int .i64 149, .int .i64 0, .int .i64 0, .int .i64 0, .int .i64 1, .int .i64 103, .int .i64 1, .int .i64 0, .int .i64 0, .int .i64 64, .int .i64 100, .int .i64 1, .int .i64 0, .int .i64 0, .int .i64 32, .int .i64 24, .int .i64 0, .int .i64 2, .int .i64 0, .int .i64 0, .int .i64 24, .int .i64 0, .int .i64 1, .int .i64 0, .int .i64 (-1), .int .i64 24, .int .i64 10, .int .i64 0, .int .i64 0, .int .i64 0, .int .i64 5, .int .i64 0, .int .i64 0, .int .i64 32768, .int .i64 0, .int .i64 97, .int .i64 11, .int .i64 0, .int .i64 0, .int .i64 0, .int .i64 215, .int .i64 0, .int .i64 0, .int .i64 0, .int .i64 16, .int .i64 6, .int .i64 0, .int .i64 0, .int .i64 0, .int .i64 0, .int .i64 143, .int .i64 0, .int .i64 0, .int .i64 0, .int .i64 0, .int .i64 219, .int .i64 0, .int .i64 0, .int .i64 0, .int .i64 2, .int .i64 219, .int .i64 0, .int .i64 10, .int .i64 0, .int .i64 1, .int .i64 219, .int .i64 0, .int .i64 10, .int .i64 0, .int .i64 0, .int .i64 212, .int .i64 0, .int .i64 0, .int .i64 0, .int .i64 8, .int .i64 183, .int .i64 0, .int .i64 0, .int .i64 0, .int .i64 2147483648, .int .i64 256, .int .i64 0, .int .i64 0, .int .i64 0, .int .i64 0, .int .i64 (-1), .int .i64 0, .int .i64 0, .int .i64 0, .int .i64 0, .int .i64 123, .int .i64 10, .int .i64 0, .int .i64 0, .int .i64 1, .int .i64 191, .int .i64 0, .int .i64 (-1), .int .i64 0, .int .i64 0] 23)).alloc (.cells #[.int .i64 9, .int .i64 10, .int .i64 10, .int .i64 9, .int .i64 10, .int .i64 8, .int .i64 10, .int .i64 8, .int .i64 7, .int .i64 7, .int .i64 7, .int .i64 10, .int .i64 8, .int .i64 0, .int .i64 10, .int .i64 10, .int .i64 7, .int .i64 7, .int .i64 9, .int .i64 8] 26) = U0 at hts ⊢
  have HT := hid hts
  clear hts
  obtain ⟨b, hb⟩ : ∃ b, W12.heap.size = b := ⟨_, rfl⟩
  rw [hb] at HT ⊢
  clear hb
  go_wp2_with fail
  go_loopw [5] (fun i wr => ∃ k : Nat, k ≤ 20 ∧ i = .int .i64 k ∧ TS b (b + 1) W12 wr) (fun i _ => 20 - (intOf i).toNat)
  case atStart => exact ⟨0, Nat.zero_le _, rfl, HT.out⟩
  case round =>
    obtain ⟨k, hk, rfl, hts⟩ := hrel
    have HTS := hid hts
    clear hts HT
    by_cases hlt : k < 20
    · obtain ⟨x, hx⟩ : ∃ x, badL[k]? = some x := ⟨_, List.getElem?_eq_getElem hlt⟩
      obtain ⟨q, hq⟩ : ∃ q, wantL.getD k 0 = q := ⟨_, rfl⟩
      have hS0 := rs_new hx hq hlt HTS.out
      obtain ⟨op, d, s, o, m⟩ := x
      simp only at hS0
      have HXX := hid hx
      have HQ := hid hq
      have hd4 : decide ((k : Int) < 20) = true := by simp; omega
      have hi20 : (k : Int) < 20 := by omega
      clear hx hq
      go_upto_region 12 with fail
      go_region_held3 (fun w' => w'.cell? ⟨b, k * 5, none⟩ = some (.int .i64 op) ∧ w'.cell? ⟨b, k * 5 + 1, none⟩ = some (.int .i64 d) ∧ w'.cell? ⟨b, k * 5 + 2, none⟩ = some (.int .i64 s) ∧ w'.cell? ⟨b, k * 5 + 3, none⟩ = some (.int .i64 o) ∧ w'.cell? ⟨b, k * 5 + 4, none⟩ = some (.int .i64 m) ∧ w'.cell? ⟨b + 1, k, none⟩ = some (.int .i64 q) ∧ TS b (b + 1) W12 w')
        (first | (with_reducible assumption) | (with_reducible exact rs_drew ‹_›))
        (first | (go_at_call 11; (with_reducible refine (rs_check HXX.out HQ.out hlt ‹_›).mono ?_); rintro e w2 ⟨rfl, hS2⟩))
      all_goals
        go_wp2_with fail
        go_roundw
        case rel => exact ⟨k + 1, by omega, by go_num, And.right (And.right (And.right (And.right (And.right (And.right (by assumption))))))⟩
        case measure => simp [intOf]; omega
    · obtain ⟨U1, hU1⟩ : ∃ U, U = wr := ⟨_, rfl⟩
      subst hU1
      have hd4 : decide ((k : Int) < 20) = false := by simp; omega
      have HB6 := hid (HB5.out.trans (HTS.out.2.2.2.2.mono HB5.out.size))
      have hsw := HB6.out.size
      clear HTS HB5
      obtain ⟨i0, hi, hz0, hz1, hz2⟩ := info_parts infoIn
      go_wp2_with fail
      go_loopw [6, 7] (fun v i w2 => ∃ k2 : Nat, k2 ≤ 257 ∧ i = .int .i64 k2 ∧ w2.ownsRow U1.heap.size 23 5 v k2 (VN (List.replicate k2 xE)) ∧ Below U1.heap.size U1 w2) (fun _ i _ => 257 - (intOf i).toNat)
      case atStart => exact ⟨0, Nat.zero_le _, rfl, World.ownsRow_nil _ _ _ _, Below.refl _ _⟩
      case round =>
        obtain ⟨k2, hk2, rfl, hown, hbel⟩ := hrel
        have HO := hid hown
        have HBL := hid hbel
        have hs2 := hbel.size
        clear hown hbel
        by_cases hlt2 : k2 < 257
        · have hd5 : decide ((k2 : Int) < 257) = true := by simp; omega
          go_wp2_with (at_builtin; refine wpList_append_own _ rfl _ _ 31 rfl U1.heap.size 23 i0 (.agg #[.int .i64 0, .int .i64 0, .int .i64 0, .int .i64 0, .int .i64 0]) 5 40 Try.underlying31 hi hz0 hz1 hz2 rfl (by decide) _ _ _ rfl (HO.out.alloc _) ⟨wr.heap.size, 0, none⟩ 1 1 [.int .i64 149, .int .i64 0, .int .i64 0, .int .i64 0, .int .i64 0] rfl rfl ?c1 ?c2 ?c3 ?c4 ?c5 ?_)
          case c1 => exact five_new wr 23 149 0 0 0 0
          case c2 => exact five_one _ _ _ _ _
          case c3 => unfold maxLen; omega
          case c4 => omega
          case c5 => simp; omega
          intro v' w3 hown3 hgrow _
          rw [rep_snoc] at hown3
          have hb3 : Below U1.heap.size U1 w3 := (HBL.out.alloc hs2 _).grown hgrow (by simp; omega) (fun q hq => (HO.out.lt q hq).1)
          have HO3 := hid hown3
          have HB3 := hid hb3
          clear hown3 hgrow hb3
          go_wp2_with fail
          go_roundw
          case rel => exact ⟨k2 + 1, by omega, by go_num, HO3.out, HB3.out⟩
          case measure => simp [intOf]; omega
        · have hd5 : decide ((k2 : Int) < 257) = false := by simp; omega
          obtain rfl : k2 = 257 := by omega
          obtain ⟨g, c, rfl⟩ := own_shapeG HO.out (by omega)
          have HAN := hid (own_argN' HO.out)
          have hcap : 257 ≤ c := HAN.out.2.1
          have HP := hid (dput_any (some ⟨g, 0, none⟩) 257 c (List.replicate 257 xE) wr HAN.out.1 (by omega) (rep_wf 257))
          unfold PutPost at HP
          rw [rep_putErr] at HP
          have HR := hid (rep_part (nrow_own HO.out))
          have hg := (HO.out.lt g rfl).2
          go_wp2_with fail
          refine HP.out.mono ?_
          rintro e w4 ⟨v8, rfl, _, hb8⟩
          have HB8 := hid (HBL.out.trans (hb8.mono hs2))
          have HP2 := hid (dput_any (some ⟨g, 0, none⟩) 256 c (List.replicate 256 xE) w4 ⟨List.length_replicate, fun _ => ⟨g, 0, rfl, Nat.lt_of_lt_of_le hg hb8.size, HR.out.below hb8 hg⟩⟩ (by omega) (rep_wf 256))
          unfold PutPost at HP2
          rw [rep_putOk, rep_putL] at HP2
          have HSM := hid rep_small
          have HBD := hid rep_bd
          have HMY := hid (rep_many [149, 0, 0, 0, 0, 0, 0, 0] (by simp))
          generalize enc (List.replicate 256 xE) = Z at HP2 HSM HBD HMY
          clear hb8 HP HR HO HAN
          go_wp2_with fail
          refine HP2.out.mono ?_
          rintro e w5 ⟨v10, rfl, hown10, hb10⟩
          have HO10 := hid hown10
          have HB10 := hid hb10
          clear hown10 hb10 HP2
          have HL := hid (lit8 w5)
          go_wp2_with (at_builtin; refine wpList_appB _ rfl _ _ rfl w4 _ Z rfl (HO10.out.alloc _) (HB10.out.alloc HB10.out.size _) _ _ [149, 0, 0, 0, 0, 0, 0, 0] rfl HL.out HSM.out ?_)
          intro v' w' hown' hb' _
          obtain ⟨A', c', rfl⟩ := ownB_shape hown'
          have HA := hid (own_argB hown' HBD.out)
          have HB11 := hid (HB8.out.trans (hb'.mono HB8.out.size))
          have HG := hid (dget_any A' _ c' _ w' HA.out.1 HA.out.2.1 HA.out.2.2)
          unfold GetPost at HG
          rw [HMY.out] at HG
          clear hown' hb'
          go_wp2_with fail
          refine HG.out.mono ?_
          rintro e w6 ⟨v12, rfl, _, hb12⟩
          have HB12 := hid (HB11.out.trans (hb12.mono HB11.out.size))
          have HG2 := hid (lit16 w6)
          unfold GetPost at HG2
          clear hb12 HG
          go_wp2_with fail
          refine HG2.out.mono ?_
          rintro e w7 ⟨v14, rfl, _, hb14⟩
          have HB14 := hid (HB12.out.trans (((below_new w6 _).trans (hb14.mono (by simp))).mono HB12.out.size))
          clear hb14 HG2
          go_wp2_with fail
          refine (known_any _).mono ?_
          rintro e w8 ⟨rfl, hb15⟩
          have HB15 := hid (HB6.out.trans ((HB14.out.trans (hb15.mono HB14.out.size)).mono hsw))
          clear hb15
          go_wp2_with fail
          go_ret
          exact ⟨rfl, HB15.out⟩
end Go.Proofs.Ytccjfnkneiggcaa.Insn
