/-
  Contracts of the document's side: a target, successors.
-/
import Derived.Test.YtfmdljnagkjhdaaFlQ
import Derived.Test.YtfmdljnagkjhdaaFlS
namespace Go.Proofs.Ytfmdljnagkjhdaa.Flow
open Go.RowKit Go.Proofs.Ytfmdljnagkjhdaa.Num Go.Proofs.Ytfmdljnagkjhdaa.ListB Go.Proofs.Ytfmdljnagkjhdaa.Insn
theorem findP_first {l : List In} {want : Int} {k : Nat} (hk : k < l.length) (h : (plc l k : Int) = want) : orNo (findP l want) = (k : Int) := by rw [findP_at hk h]; rfl
theorem findP_no {l : List In} {want : Int} (h : ∀ k, k < l.length → (plc l k : Int) ≠ want) : orNo (findP l want) = -1 := by
  cases e : findP l want with
  | none => rfl
  | some k => obtain ⟨h1, h2⟩ := findP_some e; exact absurd h2 (h k h1)
set_option maxRecDepth 100000 in
set_option maxHeartbeats 2000000 in
theorem rtarget_any (b off n cap : Nat) (l : List In) (i : Nat) (x : In) (w : World) (hln : l.length = n) (hb : b < w.heap.size) (hr : NRow w b off l) (hn : n ≤ 1000) (hi : i < n) (hx : l[i]? = some x) (hof : -32768 ≤ x.o ∧ x.o ≤ 32767) :
    Calls Try.prog 37 #[.slice (some ⟨b, off, none⟩) n cap, .int .i64 i] w fun e w' => e = .returned (.int .i64 (orNo (findP l ((plc l i : Int) + 1 + x.o)))) ∧ ∃ q, w' = w.drewN q := by
  have HA := hid (fun q => (show ArgN (w.drewN q) (some ⟨b, off, none⟩) n l from ⟨hln, fun _ => ⟨b, off, rfl, hb, hr⟩⟩))
  have HP := hid (fun (k q : Nat) (hk : k ≤ n) => rplace_any (some ⟨b, off, none⟩) n cap l k (w.drewN q) (HA.out q) hn hk)
  have HY := hid (fun (k : Nat) (hk : k < n) (h : (plc l k : Int) = (plc l i : Int) + 1 + x.o) => findP_first (l := l) (by rw [hln]; exact hk) h)
  have HNO := hid (fun (h : ∀ k, k < n → (plc l k : Int) ≠ (plc l i : Int) + 1 + x.o) => findP_no (l := l) (fun k hk => h k (by rw [← hln]; exact hk)))
  have hpk := plc_le l i (by rw [hln]; omega)
  obtain ⟨c0, c1, c2, c3, c4⟩ := hr i x hx
  have HPI := hid (fun q => HP.out i q (by omega))
  obtain ⟨p, hp⟩ : ∃ p, plc l i = p := ⟨_, rfl⟩
  rw [hp] at HY HNO HPI hpk ⊢
  obtain ⟨W, hW⟩ : ∃ W : Int, (p : Int) + 1 + x.o = W := ⟨_, rfl⟩
  have HW := hid hW
  clear hx hr hp hW
  obtain ⟨xo, xd, xs, xf, xm⟩ := x
  simp only at c0 c1 c2 c3 c4 hof HY HNO HW ⊢
  have hi0 : (0 : Int) ≤ (i : Int) := by omega
  have hi1 : (i : Int) < (n : Int) := by omega
  go_enter Try.func37, Try.ntmps37
  go_wp2_with fail
  go_quiet (first | (go_at_call 40; exact Calls.quiet_of_same (HPI.out _)))
  go_wp2_with fail
  go_loopw [6] (fun z wr => ∃ k q : Nat, k ≤ n ∧ z = .int .i64 k ∧ wr = w.drewN q ∧ Hid (∀ j, j < k → (plc l j : Int) ≠ (p : Int) + 1 + xf)) (fun z _ => n - (intOf z).toNat)
  case atStart => exact ⟨0, _, Nat.zero_le _, rfl, rfl, hid (fun j hj => by omega)⟩
  case round =>
    obtain ⟨k, q, hk, rfl, rfl, HE⟩ := hrel
    by_cases hlt : k < n
    · have HPK := hid (HP.out k q (by omega))
      have HYK := hid (HY.out k hlt)
      have hpk2 := True.intro
      obtain ⟨r, hr⟩ : ∃ r, plc l k = r := ⟨_, rfl⟩
      rw [hr] at HPK HYK
      have HR := hid hr
      clear hr hpk2
      by_cases he : (r : Int) = (p : Int) + 1 + xf
      · have HF := hid (HYK.out he)
        have HE' := hid he
        have hb1 : ((r : Int) == (p : Int) + 1 + xf) = true := by simpa using he
        clear he
        go_wp2_with fail
        refine HPK.out.mono ?_
        rintro e w2 ⟨rfl, rfl⟩
        go_wp2_with fail
        go_ret
        exact ⟨by rw [HF.out]; rfl, q, rfl⟩
      · have hb1 : ((r : Int) == (p : Int) + 1 + xf) = false := by simpa using he
        have HE2 := hid (show ∀ j, j < k + 1 → (plc l j : Int) ≠ (p : Int) + 1 + xf from fun j hj => by
          by_cases e : j = k
          · subst e; rw [HR.out]; exact he
          · exact HE.out j (by omega))
        clear he
        go_wp2_with fail
        refine HPK.out.mono ?_
        rintro e w2 ⟨rfl, rfl⟩
        go_wp2_with fail
        go_roundw
        case rel => exact ⟨k + 1, q, by omega, by go_num, rfl, HE2⟩
        case measure => simp [intOf]; omega
    · have hkn : k = n := by omega
      have HF := hid (HNO.out (fun j hj => HE.out j (by omega)))
      have hge : n ≤ k := by omega
      clear hkn
      go_wp2_with fail
      go_ret
      exact ⟨by rw [HF.out]; rfl, q, rfl⟩
end Go.Proofs.Ytfmdljnagkjhdaa.Flow
