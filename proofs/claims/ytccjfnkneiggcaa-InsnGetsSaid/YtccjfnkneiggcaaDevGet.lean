/-
  The program's Get.
-/
import Derived.Test.YtccjfnkneiggcaaGetR
import Derived.Test.YtccjfnkneiggcaaInsD
namespace Go.Proofs.Ytccjfnkneiggcaa.Insn
open Go.RowKit Go.Proofs.Ytccjfnkneiggcaa.Num Go.Proofs.Ytccjfnkneiggcaa.ListB
def GetPost (w : World) (R : List In × Int) (e : Ending) (w' : World) : Prop :=
  ∃ v, e = .returned (.tuple #[v, .int .i64 R.2]) ∧ w'.ownsRow w.heap.size 23 5 v R.1.length (VN R.1) ∧ Below w.heap.size w w'
theorem get_bad (w w' : World) (R : List In × Int) (e : Int) (h : R = ([], e)) (hb : Below w.heap.size w w') : GetPost w R (.returned (.tuple #[.slice none 0 0, .int .i64 e])) w' := by
  subst h
  exact ⟨_, rfl, World.ownsRow_nil _ _ _ _, hb⟩
theorem get_good (w w' : World) (R : List In × Int) (acc : List In) (v : Value) (h : R = (acc, 0)) (ho : w'.ownsRow w.heap.size 23 5 v acc.length (VN acc)) (hb : Below w.heap.size w w') : GetPost w R (.returned (.tuple #[v, .int .i64 0])) w' := by
  subst h
  exact ⟨_, rfl, ho, hb⟩
theorem arg_row {w : World} {a : Option Addr} {zs : List Int} (h : Arg w a zs.length zs) (h0 : 0 < zs.length) : ∃ b off, a = some ⟨b, off, none⟩ ∧ b < w.heap.size ∧ Row w b off zs := by
  obtain ⟨b, off, ha, hb, hc⟩ := h.2.2 h0
  exact ⟨b, off, ha, hb, hc, h.2.1⟩
theorem bound_drop {zs : List Int} (h : ∀ i, 0 ≤ zs.getD i 0 ∧ zs.getD i 0 ≤ 255) (n i : Nat) : 0 ≤ (zs.drop n).getD i 0 ∧ (zs.drop n).getD i 0 ≤ 255 := by
  have e : (zs.drop n).getD i 0 = zs.getD (n + i) 0 := by rw [List.getD_eq_getElem?_getD, List.getElem?_drop, List.getD_eq_getElem?_getD]
  rw [e]; exact h _
theorem arg_drop {w : World} {b off : Nat} {zs : List Int} (h : Arg w (some ⟨b, off, none⟩) zs.length zs) (n : Nat) : Arg w (some ⟨b, off + n, none⟩) (zs.drop n).length (zs.drop n) := by
  refine ⟨rfl, bound_drop h.2.1 n, fun h0 => ?_⟩
  rw [List.length_drop] at h0
  obtain ⟨b', o', ha, hb, hc⟩ := h.2.2 (by omega)
  cases ha
  refine ⟨b, off + n, rfl, hb, fun i hi => ?_⟩
  rw [List.length_drop] at hi
  have e : (zs.drop n).getD i 0 = zs.getD (n + i) 0 := by rw [List.getD_eq_getElem?_getD, List.getElem?_drop, List.getD_eq_getElem?_getD]
  rw [e, Nat.add_assoc]
  exact hc (n + i) (by omega)
theorem arg_empty {w : World} {a : Option Addr} {zs : List Int} (h : zs = []) : Arg w a zs.length zs := by
  subst h
  exact ⟨rfl, fun i => by simp, fun h0 => absurd h0 (by simp)⟩
theorem arg_below {w w' : World} {a : Option Addr} {len : Nat} {zs : List Int} (h : Arg w a len zs) (hb : Below w.heap.size w w') : Arg w' a len zs := by
  refine ⟨h.1, h.2.1, fun hl => ?_⟩
  obtain ⟨b, off, ha, hw, hc⟩ := h.2.2 hl
  exact ⟨b, off, ha, Nat.lt_of_lt_of_le hw hb.size, fun i hi => (hb.cell (show b < _ from hw)).trans (hc i hi)⟩
def lenOf : Value → Nat
  | .slice _ n _ => n
  | _ => 0
theorem errFirst_len {zs : List Int} (h : errFirst zs = 0) : lenI (zs.getD 0 0) ≤ zs.length := by
  unfold errFirst at h
  split at h
  · omega
  · omega
theorem dec_op (zs : List Int) : (decIn zs).op = zs.getD 0 0 := rfl
def Turn (acc : List In) (zs : List Int) (R : List In × Int) : Prop := acc.length ≤ 256 ∧ getT (257 - acc.length) acc zs = R
theorem turn_end {acc : List In} {zs : List Int} {R : List In × Int} (h : Turn acc zs R) (hz : zs = []) : R = (acc, 0) := by
  rw [← h.2, show 257 - acc.length = (256 - acc.length) + 1 by have := h.1; omega, getT_end _ _ _ hz]
theorem turn_many {acc : List In} {zs : List Int} {R : List In × Int} (h : Turn acc zs R) (hz : zs ≠ []) (ha : acc.length = 256) : R = ([], 19) := by
  rw [← h.2, show 257 - acc.length = (256 - acc.length) + 1 by have := h.1; omega, getT_many _ _ _ hz ha]
theorem turn_err {acc : List In} {zs : List Int} {R : List In × Int} (h : Turn acc zs R) (hz : zs ≠ []) (ha : acc.length ≠ 256) (he : errFirst zs ≠ 0) : R = ([], errFirst zs) := by
  rw [← h.2, show 257 - acc.length = (256 - acc.length) + 1 by have := h.1; omega, getT_err _ _ _ hz ha he]
theorem turn_step {acc : List In} {zs : List Int} {R : List In × Int} (h : Turn acc zs R) (hz : zs ≠ []) (ha : acc.length ≠ 256) (he : errFirst zs = 0) : Turn (acc ++ [decIn zs]) (zs.drop (lenI (zs.getD 0 0))) R := by
  have h1 := h.1
  refine ⟨by simp; omega, ?_⟩
  rw [← h.2, show 257 - acc.length = (256 - acc.length) + 1 by omega, getT_step _ _ _ hz ha he]
  congr 1
  rw [List.length_append]; simp only [List.length_cons, List.length_nil]; omega
set_option maxHeartbeats 4000000 in
theorem dget_any (a0 : Option Addr) (len0 cap0 : Nat) (zs0 : List Int) (w : World) (h : Arg w a0 len0 zs0) (hc : len0 ≤ cap0) (hm : cap0 ≤ 9223372036854775807) :
    Calls Try.prog 25 #[.slice a0 len0 cap0] w (GetPost w (getR zs0)) := by
  obtain rfl := h.1
  have HT0 := hid (show Turn [] zs0 (getR zs0) from ⟨by simp, rfl⟩)
  obtain ⟨R, hR⟩ : ∃ R, getR zs0 = R := ⟨_, rfl⟩
  rw [hR] at HT0 ⊢
  clear hR
  have HA0 := hid h
  clear h
  have HG := hid (fun w' acc v h1 h2 h3 => get_good w w' R acc v h1 h2 h3)
  have HBAD := hid (fun w' e h1 h2 => get_bad w w' R e h1 h2)
  obtain ⟨i0, hi, hz0, hz1, hz2⟩ := info_parts infoIn
  go_enter Try.func25, Try.ntmps25
  go_wp2
  go_loopw [0, 4] (fun bv v wr => ∃ (zs : List Int) (acc : List In) (ad : Option Addr) (cp : Nat) (oa : Option Addr) (oc : Nat), bv = .slice ad zs.length cp ∧ v = .slice oa acc.length oc ∧ zs.length ≤ cp ∧ cp ≤ 9223372036854775807 ∧ Hid (Arg w ad zs.length zs) ∧ Hid (Turn acc zs R) ∧ wr.ownsRow w.heap.size 23 5 v acc.length (VN acc) ∧ Below w.heap.size w wr) (fun bv _ _ => lenOf bv)
  case atStart => exact ⟨zs0, [], a0, cap0, none, 0, rfl, rfl, hc, hm, HA0, HT0, World.ownsRow_nil _ _ _ _, Below.refl _ _⟩
  case round =>
    obtain ⟨zs, acc, ad, cp, oa, oc, rfl, rfl, hcp, hcm, HA, HT, hown, hbel⟩ := hrel
    have HO := hid hown
    have HB := hid hbel
    have hsz := hbel.size
    clear hown hbel
    by_cases hz : 0 < zs.length
    · have hnil : zs ≠ [] := fun e => by rw [e] at hz; simp at hz
      by_cases h256 : acc.length = 256
      · have HF := hid (HBAD.out wr _ (turn_many HT.out hnil h256) HB.out)
        clear hnil
        go_wp2_with fail
        go_ret2
        exact HF.out
      · have hne : ¬ ((acc.length : Int) = 256) := by omega
        have b256 : ((acc.length : Int) == 256) = false := by simp; omega
        obtain ⟨bb, off, rfl, hbb, hrow⟩ := arg_row HA.out hz
        have HR := hid hrow
        have hF := first_any bb off zs.length cp zs wr rfl hz (by omega) (row_up hrow HB.out hbb)
        have HF := hid hF
        unfold FirstPost at HF
        have ha := HT.out.1
        have HNIL := hid hnil
        clear hrow hF hnil
        by_cases he : errFirst zs = 0
        · rw [he, if_pos rfl] at HF
          have HT2 := hid (turn_step HT.out HNIL.out h256 he)
          have hlen := errFirst_len he
          have HD := hid (show decIn zs = ⟨(decIn zs).op, (decIn zs).d, (decIn zs).s, (decIn zs).o, (decIn zs).m⟩ from rfl)
          rw [HD.out, ← dec_op zs] at HT2
          rw [← dec_op zs] at hlen
          generalize (decIn zs).op = xo at HF HT2 hlen
          generalize (decIn zs).d = xd at HF HT2
          generalize (decIn zs).s = xs at HF HT2
          generalize (decIn zs).o = xf at HF HT2
          generalize (decIn zs).m = xm at HF HT2
          unfold insnV at HF
          clear h256 hne HD
          go_wp2_with fail
          refine HF.out.mono ?_
          rintro e w2 ⟨rfl, hb2⟩
          have HO2 := hid (HO.out.kept (grown_of2 hb2) (Classical.em _))
          have HB2 := hid (HB.out.trans (hb2.mono hsz))
          have hs2 := HB2.out.size
          clear hb2
          have hsn : VN acc ++ [.int .i64 xo, .int .i64 xd, .int .i64 xs, .int .i64 xf, .int .i64 xm] = VN (acc ++ [⟨xo, xd, xs, xf, xm⟩]) := by rw [VN_append]; rfl
          have HS := hid hsn
          have hn : (acc ++ [In.mk xo xd xs xf xm]).length = acc.length + 1 := by simp
          have HN := hid hn
          clear hsn hn
          have hX := hid (XB.new w2 ⟨xo, xd, xs, xf, xm⟩)
          have hz2 : w2.heap.size + 1 = (w2.alloc (.cells #[.int .i64 xo, .int .i64 xd, .int .i64 xs, .int .i64 xf, .int .i64 xm] 23)).heap.size := by simp
          have HZ2 := hid hz2
          clear hz2
          have HO2a := hid (HO2.out.alloc (.cells #[.int .i64 xo, .int .i64 xd, .int .i64 xs, .int .i64 xf, .int .i64 xm] 23))
          go_wp2_with (at_builtin; refine wpList_append_own _ rfl _ _ 31 rfl w.heap.size 23 i0 (.agg #[.int .i64 0, .int .i64 0, .int .i64 0, .int .i64 0, .int .i64 0]) 5 40 Try.underlying31 hi hz0 hz1 hz2 rfl (by decide) _ _ _ rfl (HO2a.out.alloc _) ⟨w2.heap.size + 1, 0, none⟩ 1 1 [.int .i64 xo, .int .i64 xd, .int .i64 xs, .int .i64 xf, .int .i64 xm] rfl rfl ?c1 ?c2 ?c3 ?c4 ?c5 ?_)
          case c1 => have t := five_new (w2.alloc (.cells #[.int .i64 xo, .int .i64 xd, .int .i64 xs, .int .i64 xf, .int .i64 xm] 23)) 23 xo xd xs xf xm; rw [← HZ2.out] at t; exact t
          case c2 => exact five_one _ _ _ _ _
          case c3 => unfold maxLen; omega
          case c4 => omega
          case c5 => simp; omega
          intro v' w3 hown3 hgrow _
          have hb3 : Below w.heap.size w w3 := ((HB2.out.alloc hs2 _).alloc (by simp; omega) _).grown hgrow (by simp; omega) (fun q hq => (HO2.out.lt q hq).1)
          have y0 : w3.cell? ⟨w2.heap.size, 0, none⟩ = some (.int .i64 xo) := hgrow.cell (by simp) (by
            intro e
            have := (HO2.out.lt _ e.symm).2
            simp at this)
          rw [HS.out, ← HN.out] at hown3
          obtain ⟨oa', oc', rfl, _⟩ := own_argN hown3
          have HO3 := hid hown3
          have HB3 := hid hb3
          have hlz : (zs.drop (lenI xo)).length = zs.length - lenI xo := List.length_drop
          have HLZ := hid hlz
          have hl8 : 8 ≤ lenI xo := by unfold lenI; split <;> omega
          rw [HN.out]
          clear hown3 hgrow hb3 hlz
          by_cases hk : cp = lenI xo
          · have hk' : (cp = lenI xo) = True := by simp [hk]
            have hA4 := hid (show Arg w (some ⟨bb, off, none⟩) (zs.drop (lenI xo)).length (zs.drop (lenI xo)) from arg_empty (List.drop_eq_nil_of_le (by omega)))
            clear hk
            go_wp2_with fail
            refine (length_any _ _).mono ?_
            rintro e w' ⟨rfl, rfl⟩
            go_wp2_with fail
            go_roundw
            case rel => exact ⟨zs.drop (lenI xo), _, _, cp - lenI xo, oa', oc', by rw [HLZ.out], by rw [HN.out], by rw [HLZ.out]; omega, by omega, hA4, HT2, by rw [← HN.out]; exact HO3.out, HB3.out⟩
            case measure => simp [lenOf]; omega
          · have hA4 := hid (arg_drop HA.out (lenI xo))
            go_wp2_with fail
            refine (length_any _ _).mono ?_
            rintro e w' ⟨rfl, rfl⟩
            go_wp2_with fail
            go_roundw
            case rel => exact ⟨zs.drop (lenI xo), _, _, cp - lenI xo, oa', oc', by rw [HLZ.out], by rw [HN.out], by rw [HLZ.out]; omega, by omega, hA4, HT2, by rw [← HN.out]; exact HO3.out, HB3.out⟩
            case measure => simp [lenOf]; omega
        · have HE := hid (turn_err HT.out HNIL.out h256 he)
          rw [if_neg he] at HF
          generalize errFirst zs = q at HF HE he
          have hq : (q != 0) = true := by simpa using he
          unfold insnV at HF
          clear h256 hne he
          go_wp2_with fail
          refine HF.out.mono ?_
          rintro e w2 ⟨rfl, hb2⟩
          have hb3 := HB.out.trans (hb2.mono hsz)
          have HFF := hid (fun o => HBAD.out (w2.alloc o) q HE.out (hb3.alloc hb3.size o))
          clear hb2 hb3
          go_wp2_with fail
          go_ret2
          exact HFF.out _
    · have hzn : zs = [] := List.length_eq_zero_iff.1 (by omega)
      have hz0' : zs.length = 0 := by omega
      have HF := hid (HG.out wr acc _ (turn_end HT.out hzn) HO.out HB.out)
      clear hzn
      go_wp2_with fail
      go_ret2
      exact HF.out
end Go.Proofs.Ytccjfnkneiggcaa.Insn
