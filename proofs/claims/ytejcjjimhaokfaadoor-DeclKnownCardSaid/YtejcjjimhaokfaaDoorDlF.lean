/-
  The contracts of Check, the program's and the document's.
-/
import Derived.Test.YtejcjjimhaokfaaDoorDlE
namespace Go.Proofs.YtejcjjimhaokfaaDoor.Dcl
open Go.RowKit Go.Proofs.YtejcjjimhaokfaaDoor.Num Go.Proofs.YtejcjjimhaokfaaDoor.Up Go.Proofs.YtejcjjimhaokfaaDoor.Tn
def chkD (L : List Dc) : BitVec 64 := if 10 < L.length then 19#64 else firstE (fun d => decl_checkOne d L L.length) L
def chkR (L : List Dc) : BitVec 64 := if 10 < L.length then 19#64 else firstE (fun d => ref_one d L L.length) L
theorem chk_is (L : List Dc) : chkD L = chkR L := by
  unfold chkD chkR
  rw [show (fun d => decl_checkOne d L L.length) = (fun d => ref_one d L L.length) from funext fun d => one_is d L L.length]
theorem check_any (L : List Dc) (a : Option Addr) (len cap : Nat) (w : World) (h : ArgN w a len (L.map Dc.di)) (hT : Tab w) :
    Calls Tryd.prog 10 #[.slice a len cap] w fun e w' => e = .returned (.int .i64 (ti (chkD L))) ∧ Below w.heap.size w w' := by
  have hln : L.length = len := by have := h.1; simpa using this
  have HA := hid h; have HT := hid hT
  have HLN := hid hln
  clear h hT
  unfold chkD
  rw [hln]
  by_cases h10 : 10 < len
  · rw [if_pos h10]
    clear hln
    have h10' : (10 : Int) < (len : Int) := by omega
    go_enter Tryd.func10, Tryd.ntmps10
    go_wp2
    go_ret
    exact ⟨rfl, Below.refl _ _⟩
  · rw [if_neg h10]
    have h10' : ¬ ((10 : Int) < (len : Int)) := by omega
    have HFIN := hid (fun h => first_none (f := fun d => decl_checkOne d L len) (L := L) h)
    have HERR := hid (fun k hk h hf => first_at (f := fun d => decl_checkOne d L len) (L := L) k hk h hf)
    rw [hln] at HFIN HERR
    clear hln
    obtain ⟨R, hR⟩ : ∃ R, firstE (fun d => decl_checkOne d L len) L = R := ⟨_, rfl⟩
    rw [hR] at HFIN HERR ⊢
    clear hR
    go_enter Tryd.func10, Tryd.ntmps10
    go_wp2_with fail
    go_loopw [11] (fun i wr => ∃ k : Nat, k ≤ len ∧ i = .int .i64 k ∧ Hid (∀ j, j < k → decl_checkOne (L.getD j dc0) L len = 0#64) ∧ Below w.heap.size w wr) (fun i _ => len - (intOf i).toNat)
    case atStart => exact ⟨0, Nat.zero_le _, rfl, hid (fun j hj => by omega), Below.refl _ _⟩
    case round =>
      obtain ⟨k, hk, rfl, HE, hbel⟩ := hrel
      have hsz := hbel.size
      by_cases hlt : k < len
      · obtain ⟨b, off, rfl, hb, hr⟩ := HA.out.2 (by omega)
        obtain ⟨c0, c1, c2, c3, c4⟩ := hr.below hbel hb k _ (map_get L k (by rw [HLN.out]; exact hlt))
        have HK := hid (HERR.out k hlt HE.out)
        have HS := hid (fun (e : decl_checkOne (L.getD k dc0) L len = 0#64) => show ∀ j, j < k + 1 → decl_checkOne (L.getD j dc0) L len = 0#64 from fun j hj => by
          by_cases hjk : j = k
          · rw [hjk]; exact e
          · exact HE.out j (by omega))
        generalize L.getD k dc0 = q at c0 c1 c2 c3 c4 HK HS
        unfold Dc.di at c0 c1 c2 c3 c4
        simp only at c0 c1 c2 c3 c4
        have HC := hid (fun w' (hb' : Below w.heap.size w w') => decl_checkOne_any q L len (some ⟨b, off, none⟩) cap w' (by omega) (HA.out.up hb') (HT.out.up hb'))
        have hk0 : (0 : Int) ≤ (k : Int) := by omega
        have hk1 : (k : Int) < (len : Int) := by omega
        have HBL := hid hbel
        clear hr hbel
        go_wp2_with fail
        refine (HC.out _ (by repeat (first | exact HBL.out | refine Below.setCell ?_ (by first | omega | (simp; omega)) _ | refine Below.alloc ?_ (by first | omega | (simp; omega)) _))).mono ?_
        rintro e w2 ⟨rfl, hb2⟩
        have HB2 := hid (Below.trans (show Below w.heap.size w _ by repeat (first | exact HBL.out | refine Below.setCell ?_ (by first | omega | (simp; omega)) _ | refine Below.alloc ?_ (by first | omega | (simp; omega)) _)) (hb2.mono (by first | omega | (simp; omega))))
        clear hb2 c0 c1 c2 c3 c4 HC
        generalize decl_checkOne q L len = r at HK HS ⊢
        by_cases hr0 : r = 0#64
        · have HS' := hid (HS.out hr0)
          rw [hr0, show ti 0#64 = 0 from by decide]
          clear HK HS hr0
          go_wp2_with fail
          go_roundw
          case rel => exact ⟨k + 1, by omega, by go_num, HS', HB2.out⟩
          case measure => simp [intOf]; omega
        · have hb0 : (ti r != 0) = true := by
            rw [bne_iff_ne]
            intro e
            exact hr0 (ti_is e)
          have HR := hid (HK.out hr0)
          clear HK HS hr0
          go_wp2_with fail
          go_ret
          exact ⟨by rw [HR.out]; rfl, HB2.out⟩
      · have hkn : k = len := by omega
        have HR := hid (HFIN.out (fun j hj => HE.out j (by omega)))
        have HBL := hid hbel
        have hge : len ≤ k := by omega
        clear hkn hbel
        go_wp2_with fail
        go_ret
        exact ⟨by rw [HR.out]; rfl, HBL.out⟩
theorem rcheck_any (L : List Dc) (a : Option Addr) (len cap : Nat) (w : World) (h : ArgN w a len (L.map Dc.di)) :
    Calls Tryd.prog 11 #[.slice a len cap] w fun e w' => e = .returned (.int .i64 (ti (chkR L))) ∧ Below w.heap.size w w' := by
  have hln : L.length = len := by have := h.1; simpa using this
  have HA := hid h
  have HLN := hid hln
  clear h
  unfold chkR
  rw [hln]
  by_cases h10 : 10 < len
  · rw [if_pos h10]
    clear hln
    have h10' : (10 : Int) < (len : Int) := by omega
    go_enter Tryd.func11, Tryd.ntmps11
    go_wp2
    go_ret
    exact ⟨rfl, Below.refl _ _⟩
  · rw [if_neg h10]
    have h10' : ¬ ((10 : Int) < (len : Int)) := by omega
    have HFIN := hid (fun h => first_none (f := fun d => ref_one d L len) (L := L) h)
    have HERR := hid (fun k hk h hf => first_at (f := fun d => ref_one d L len) (L := L) k hk h hf)
    rw [hln] at HFIN HERR
    clear hln
    obtain ⟨R, hR⟩ : ∃ R, firstE (fun d => ref_one d L len) L = R := ⟨_, rfl⟩
    rw [hR] at HFIN HERR ⊢
    clear hR
    go_enter Tryd.func11, Tryd.ntmps11
    go_wp2_with fail
    go_loopw [3] (fun i wr => ∃ k : Nat, k ≤ len ∧ i = .int .i64 k ∧ Hid (∀ j, j < k → ref_one (L.getD j dc0) L len = 0#64) ∧ Below w.heap.size w wr) (fun i _ => len - (intOf i).toNat)
    case atStart => exact ⟨0, Nat.zero_le _, rfl, hid (fun j hj => by omega), Below.refl _ _⟩
    case round =>
      obtain ⟨k, hk, rfl, HE, hbel⟩ := hrel
      have hsz := hbel.size
      by_cases hlt : k < len
      · obtain ⟨b, off, rfl, hb, hr⟩ := HA.out.2 (by omega)
        obtain ⟨c0, c1, c2, c3, c4⟩ := hr.below hbel hb k _ (map_get L k (by rw [HLN.out]; exact hlt))
        have HK := hid (HERR.out k hlt HE.out)
        have HS := hid (fun (e : ref_one (L.getD k dc0) L len = 0#64) => show ∀ j, j < k + 1 → ref_one (L.getD j dc0) L len = 0#64 from fun j hj => by
          by_cases hjk : j = k
          · rw [hjk]; exact e
          · exact HE.out j (by omega))
        generalize L.getD k dc0 = q at c0 c1 c2 c3 c4 HK HS
        unfold Dc.di at c0 c1 c2 c3 c4
        simp only at c0 c1 c2 c3 c4
        have HC := hid (fun w' (hb' : Below w.heap.size w w') => ref_one_any q L len (some ⟨b, off, none⟩) cap w' (by omega) (HA.out.up hb'))
        have hk0 : (0 : Int) ≤ (k : Int) := by omega
        have hk1 : (k : Int) < (len : Int) := by omega
        have HBL := hid hbel
        clear hr hbel
        go_wp2_with fail
        refine (HC.out _ (by repeat (first | exact HBL.out | refine Below.setCell ?_ (by first | omega | (simp; omega)) _ | refine Below.alloc ?_ (by first | omega | (simp; omega)) _))).mono ?_
        rintro e w2 ⟨rfl, hb2⟩
        have HB2 := hid (Below.trans (show Below w.heap.size w _ by repeat (first | exact HBL.out | refine Below.setCell ?_ (by first | omega | (simp; omega)) _ | refine Below.alloc ?_ (by first | omega | (simp; omega)) _)) (hb2.mono (by first | omega | (simp; omega))))
        clear hb2 c0 c1 c2 c3 c4 HC
        generalize ref_one q L len = r at HK HS ⊢
        by_cases hr0 : r = 0#64
        · have HS' := hid (HS.out hr0)
          rw [hr0, show ti 0#64 = 0 from by decide]
          clear HK HS hr0
          go_wp2_with fail
          go_roundw
          case rel => exact ⟨k + 1, by omega, by go_num, HS', HB2.out⟩
          case measure => simp [intOf]; omega
        · have hb0 : (ti r != 0) = true := by
            rw [bne_iff_ne]
            intro e
            exact hr0 (ti_is e)
          have HR := hid (HK.out hr0)
          clear HK HS hr0
          go_wp2_with fail
          go_ret
          exact ⟨by rw [HR.out]; rfl, HB2.out⟩
      · have hkn : k = len := by omega
        have HR := hid (HFIN.out (fun j hj => HE.out j (by omega)))
        have HBL := hid hbel
        have hge : len ≤ k := by omega
        clear hkn hbel
        go_wp2_with fail
        go_ret
        exact ⟨by rw [HR.out]; rfl, HBL.out⟩
end Go.Proofs.YtejcjjimhaokfaaDoor.Dcl
