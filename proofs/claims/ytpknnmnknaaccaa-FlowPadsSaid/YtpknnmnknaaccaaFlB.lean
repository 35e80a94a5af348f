/-
  Contracts of flow's lists: places, numbers none of them twice, successors.
-/
import Derived.Test.YtpknnmnknaaccaaFlA
import Derived.Test.YtpknnmnknaaccaaShelf
import Derived.Deep.Onto
import Derived.OwnWalk
namespace Go.Proofs.Ytpknnmnknaaccaa.Flow
open Go.RowKit Go.Proofs.Ytpknnmnknaaccaa.Num Go.Proofs.Ytpknnmnknaaccaa.ListB Go.Proofs.Ytpknnmnknaaccaa.Insn
/-- A list of numbers that is the call's own. -/
def OwnI (w : World) (zs : List Int) (e : Ending) (w' : World) : Prop :=
  ∃ v, e = .returned v ∧ w'.ownsRow w.heap.size 3 1 v zs.length (VI zs) ∧ Below w.heap.size w w'
/-- A list that is filled up to k, noughts behind. -/
def mk (zs : List Int) (k : Nat) : List Int := zs.take k ++ List.replicate (zs.length - k) 0
theorem mk_zero (zs : List Int) : mk zs 0 = List.replicate zs.length 0 := by simp [mk]
theorem mk_length (zs : List Int) (k : Nat) (h : k ≤ zs.length) : (mk zs k).length = zs.length := by simp [mk]; omega
theorem take_one (zs : List Int) (k : Nat) (h : k < zs.length) : zs.take (k + 1) = zs.take k ++ [zs.getD k 0] := by
  rw [List.take_succ_eq_append_getElem h]; simp [h]
theorem mk_set (zs : List Int) (k : Nat) (h : k < zs.length) : (mk zs k).set k (zs.getD k 0) = mk zs (k + 1) := by
  unfold mk
  rw [take_one zs k h, List.set_append, if_neg (by rw [List.length_take]; omega), show zs.length - k = (zs.length - (k + 1)) + 1 by omega, List.replicate_succ, List.length_take, Nat.min_eq_left (Nat.le_of_lt h), Nat.sub_self, List.set_cons_zero, List.append_assoc]
  rfl
theorem mk_done (zs : List Int) : mk zs zs.length = zs := by simp [mk]
theorem snocI (zs : List Int) (k : Nat) (h : k < zs.length) : VI (zs.take k) ++ [.int .i64 (zs.getD k 0)] = VI (zs.take (k + 1)) := by
  unfold VI; rw [List.take_succ_eq_append_getElem h, List.map_append]; simp [h]
def plL (l : List In) : List Int := (List.range l.length).map fun k => (plc l k : Int)
theorem plL_length (l : List In) : (plL l).length = l.length := by simp [plL]
theorem plL_get (l : List In) (k : Nat) (h : k < l.length) : (plL l).getD k 0 = (plc l k : Int) := by
  unfold plL; rw [List.getD_eq_getElem?_getD]; simp [h]
theorem make_own {w w1 : World} {n : Nat} (h : w1.ownsRow w.heap.size 3 1 (.slice (some ⟨w.heap.size, 0, none⟩) n n) n (madeCells (Value.int IntKind.i64 0).cells (n * 1)).toList) : w1.ownsRow w.heap.size 3 1 (.slice (some ⟨w.heap.size, 0, none⟩) n n) n (VI (List.replicate n 0)) := by
  unfold VI; rw [List.map_replicate]
  rw [show (Value.int IntKind.i64 0).cells = #[.int .i64 0] from rfl, toList_madeCells_one, Nat.mul_one] at h
  exact h
set_option maxHeartbeats 2000000 in
theorem places_any (a : Option Addr) (len cap : Nat) (l : List In) (w : World) (h : ArgN w a len l) (hl : len ≤ 1000) :
    Calls Try.prog 13 #[.slice a len cap] w (OwnI w (plL l)) := by
  obtain ⟨i0, hi, hz0, hz1, hz2⟩ := info_parts infoInt
  have HA := hid h
  have HZ := hid h.1
  have HL := hid (fun k (h : k < len) => mk_set (plL l) k (by rw [plL_length, HZ.out]; exact h))
  have HG := hid (fun k (h : k < len) => plL_get l k (by rw [HZ.out]; exact h))
  have HM := hid (fun k (h : k ≤ len) => (show (mk (plL l) k).length = len by rw [mk_length _ _ (by rw [plL_length, HZ.out]; exact h), plL_length, HZ.out]))
  have HP := hid (fun k (h : k ≤ len) => plc_le l k (by rw [HZ.out]; exact h))
  have HD := hid (show mk (plL l) len = plL l by have := mk_done (plL l); rw [plL_length, HZ.out] at this; exact this)
  have H0 := hid (show mk (plL l) 0 = List.replicate len 0 by rw [mk_zero, plL_length, HZ.out])
  have HN := hid (show (plL l).length = len by rw [plL_length, HZ.out])
  have HT := hid (plc_zero l)
  clear h
  unfold OwnI
  rw [HN.out]
  go_enter Try.func13, Try.ntmps13
  go_wp2_with (at_make; refine wpList_make_full _ rfl _ _ 26 rfl w.heap.size 3 i0 (.int .i64 0) 1 Try.underlying26 hi hz0 hz1 .i64 .i64 _ _ len rfl rfl rfl rfl (by rw [hz2]; omega) (by unfold maxLen; omega) (Nat.le_refl _) ?_; intro w1 hown1 hgrow1)
  have hst : w1.ownsRow w.heap.size 3 1 (.slice (some ⟨w.heap.size, 0, none⟩) len len) len (VI (mk (plL l) 0)) := by
    rw [H0.out]
    exact make_own hown1
  have hb1 : Below w.heap.size w w1 := ⟨hgrow1.os, hgrow1.tape, hgrow1.output, hgrow1.size, fun k hk => hgrow1.block k hk (by simp)⟩
  have HST := hid hst
  clear hst hown1 hgrow1
  go_wp2
  go_loopw [4, 12] (fun p i wr => ∃ k : Nat, k ≤ len ∧ p = .int .i64 (plc l k : Nat) ∧ i = .int .i64 k ∧ wr.ownsRow w.heap.size 3 1 (.slice (some ⟨w.heap.size, 0, none⟩) len len) len (VI (mk (plL l) k)) ∧ Below w.heap.size w wr) (fun _ i _ => len - (intOf i).toNat)
  case atStart => exact ⟨0, Nat.zero_le _, by rw [HT.out]; rfl, rfl, HST.out, hb1⟩
  case round =>
    obtain ⟨k, hk, rfl, rfl, hown, hbel⟩ := hrel
    by_cases hlt : k < len
    · obtain ⟨x, hx⟩ : ∃ x, l[k]? = some x := ⟨_, List.getElem?_eq_getElem (by rw [HZ.out]; exact hlt)⟩
      obtain ⟨b, off, rfl, hb, hc⟩ := HA.out.2 (by omega)
      obtain ⟨c0, c1, c2, c3, c4⟩ := (hc.below hbel hb) k x hx
      have hps := plc_succ hx
      have hsp := sz_pos x
      have hpk := HP.out k (by omega)
      have HSZ := hid (fun w => size_any x w)
      have hgs := (hown.lt _ rfl).2
      have hfr := (hown.alloc (.cells #[.int .i64 x.op, .int .i64 x.d, .int .i64 x.s, .int .i64 x.o, .int .i64 x.m] 35)).frozenAt k
      have hcell := ((hown.alloc (.cells #[.int .i64 x.op, .int .i64 x.d, .int .i64 x.s, .int .i64 x.o, .int .i64 x.m] 35)).cellAt k (by omega)).trans (VI_get _ _ (by rw [HM.out k (by omega)]; omega))
      have hst := hown.stored k (.int .i64 (plc l k : Nat))
      rw [VI_set, ← HG.out k hlt, HL.out k hlt] at hst
      have HST := hid (hst.1.alloc (.cells #[.int .i64 x.op, .int .i64 x.d, .int .i64 x.s, .int .i64 x.o, .int .i64 x.m] 35))
      have hsb := hbel.setCell (p := ⟨w.heap.size, k, none⟩) (Nat.le_refl _) (.int .i64 ((plL l).getD k 0))
      have HB := hid (hsb.alloc hsb.size (.cells #[.int .i64 x.op, .int .i64 x.d, .int .i64 x.s, .int .i64 x.o, .int .i64 x.m] 35))
      rw [HG.out k hlt] at HST HB
      clear hsb
      obtain ⟨y, hy⟩ : ∃ y, (mk (plL l) k).getD k 0 = y := ⟨_, rfl⟩
      rw [hy] at hcell
      obtain ⟨p, hp⟩ : ∃ p, plc l k = p := ⟨_, rfl⟩
      rw [hp] at hps hpk HST HB ⊢
      have HPS := hid hps
      obtain ⟨s, hs⟩ : ∃ s, sz x = s := ⟨_, rfl⟩
      rw [hs] at HPS hsp HSZ
      clear hst hown hbel hx hy hp hs hps hc hb
      obtain ⟨xo, xd, xs, xf, xm⟩ := x
      unfold insnV at HSZ
      simp only at c0 c1 c2 c3 c4 hfr hcell HST HB HSZ
      go_wp2_with fail
      refine (HSZ.out _).mono ?_
      rintro e w2 ⟨rfl, hb2⟩
      have HOW := hid (HST.out.kept (grown_of2 hb2) (Classical.em _))
      have HBW := hid (HB.out.trans (hb2.mono HB.out.size))
      clear hb2 c0 c1 c2 c3 c4 hfr hcell
      go_wp2
      go_roundw
      case rel => exact ⟨k + 1, by omega, by rw [HPS.out]; go_num, by go_num, HOW.out, HBW.out⟩
      case measure => simp [intOf]; omega
    · have hkn : k = len := by omega
      have hown2 := hown
      rw [hkn, HD.out] at hown2
      have HO := hid hown2
      have HB := hid hbel
      have hge : len ≤ k := by omega
      clear hown hown2 hkn hbel
      go_wp2
      go_ret
      exact ⟨_, rfl, HO.out, HB.out⟩
end Go.Proofs.Ytpknnmnknaaccaa.Flow
