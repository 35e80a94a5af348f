/-
  Contracts of the document's side: jumps, places, targets, successors.
-/
import Derived.Test.YtfmdljnagkjhdaaFlJ
import Derived.Deep.QuietTactic
import Derived.BigQuiet
namespace Go.Proofs.Ytfmdljnagkjhdaa.Flow
open Go.RowKit Go.Proofs.Ytfmdljnagkjhdaa.Num Go.Proofs.Ytfmdljnagkjhdaa.ListB Go.Proofs.Ytfmdljnagkjhdaa.Insn
theorem rjumps_any (x : In) (h0 : 0 ≤ x.op) (w : World) :
    Calls Try.prog 18 #[insnV x.op x.d x.s x.o x.m] w fun e w' => e = .returned (.bool (jmpB x.op)) ∧ Below w.heap.size w w' := by
  obtain ⟨op, d, s, o, m⟩ := x
  unfold insnV
  simp only at h0 ⊢
  have ht : op.tmod 8 = op % 8 := Int.tmod_eq_emod_of_nonneg h0
  have key : ∀ b, jmpB op = b → Calls Try.prog 18 #[.agg #[.int .i64 op, .int .i64 d, .int .i64 s, .int .i64 o, .int .i64 m]] w fun e w' => e = .returned (.bool b) ∧ Below w.heap.size w w' := by
    intro b hb
    by_cases h5 : (op % 8 == 5) = true
    · have hb' : ((op != 133) && (op != 149)) = b := by rw [← hb]; unfold jmpB; rw [h5]; rfl
      clear hb
      cases h1 : (op != 133)
      · rw [h1] at hb'
        obtain rfl : false = b := hb'
        go_enter Try.func18, Try.ntmps18
        go_wp2_with fail
        go_ret
        exact ⟨rfl, (Below.refl _ _).alloc (Nat.le_refl _) _⟩
      · rw [h1] at hb'
        cases h2 : (op != 149)
        all_goals
          rw [h2] at hb'
          first | (obtain rfl : false = b := hb') | (obtain rfl : true = b := hb')
          go_enter Try.func18, Try.ntmps18
          go_wp2_with fail
          go_ret
          exact ⟨rfl, (Below.refl _ _).alloc (Nat.le_refl _) _⟩
    · have h5' : (op % 8 == 5) = false := by simpa using h5
      clear h5
      by_cases h6 : (op % 8 == 6) = true
      · have hb' : ((op != 133) && (op != 149)) = b := by rw [← hb]; unfold jmpB; rw [h5', h6]; rfl
        clear hb
        cases h1 : (op != 133)
        · rw [h1] at hb'
          obtain rfl : false = b := hb'
          go_enter Try.func18, Try.ntmps18
          go_wp2_with fail
          go_ret
          exact ⟨rfl, (Below.refl _ _).alloc (Nat.le_refl _) _⟩
        · rw [h1] at hb'
          cases h2 : (op != 149)
          all_goals
            rw [h2] at hb'
            first | (obtain rfl : false = b := hb') | (obtain rfl : true = b := hb')
            go_enter Try.func18, Try.ntmps18
            go_wp2_with fail
            go_ret
            exact ⟨rfl, (Below.refl _ _).alloc (Nat.le_refl _) _⟩
      · have h6' : (op % 8 == 6) = false := by simpa using h6
        have hb' : false = b := by rw [← hb]; unfold jmpB; rw [h5', h6']; rfl
        clear hb h6
        subst hb'
        go_enter Try.func18, Try.ntmps18
        go_wp2_with fail
        go_ret
        exact ⟨rfl, (Below.refl _ _).alloc (Nat.le_refl _) _⟩
  exact key _ rfl
set_option maxHeartbeats 1000000 in
theorem rplace_any (a : Option Addr) (n cap : Nat) (l : List In) (i : Nat) (w : World) (h : ArgN w a n l) (hn : n ≤ 1000) (hi : i ≤ n) :
    Calls Try.prog 40 #[.slice a n cap, .int .i64 i] w fun e w' => e = .returned (.int .i64 (plc l i : Nat)) ∧ w' = w := by
  have HA := hid h
  have HN := hid h.1
  have HPS := hid (fun k x (hx : l[k]? = some x) => plc_succ hx)
  have HPB := hid (fun k (h : k ≤ n) => plc_le l k (by rw [HN.out]; exact h))
  have HT := hid (plc_zero l)
  clear h
  go_enter Try.func40, Try.ntmps40
  go_wp2
  go_loopw [5, 6] (fun p z wr => ∃ k : Nat, k ≤ i ∧ p = .int .i64 (plc l k : Nat) ∧ z = .int .i64 k ∧ wr = w) (fun _ z _ => i - (intOf z).toNat)
  case atStart => exact ⟨0, Nat.zero_le _, by rw [HT.out]; rfl, rfl, rfl⟩
  case round =>
    obtain ⟨k, hk, rfl, rfl, rfl⟩ := hrel
    by_cases hlt : k < i
    · obtain ⟨x, hx⟩ : ∃ x, l[k]? = some x := ⟨_, List.getElem?_eq_getElem (by rw [HN.out]; omega)⟩
      obtain ⟨b, off, rfl, hb, hc⟩ := HA.out.2 (by omega)
      obtain ⟨c0, c1, c2, c3, c4⟩ := hc k x hx
      have hps := HPS.out k x hx
      have hpk := HPB.out k (by omega)
      obtain ⟨p, hp⟩ : ∃ p, plc l k = p := ⟨_, rfl⟩
      rw [hp] at hps hpk ⊢
      have hkn : k < n := by omega
      clear hx hb hc hp
      obtain ⟨xo, xd, xs, xf, xm⟩ := x
      simp only at c0 c1 c2 c3 c4
      by_cases h24 : xo = 24
      · subst h24
        have HPS' := hid (show plc l (k + 1) = p + 2 from hps)
        clear hps
        go_wp2_with fail
        go_roundw
        case rel => exact ⟨k + 1, by omega, by rw [HPS'.out]; go_num, by go_num, trivial⟩
        case measure => simp [intOf]; omega
      · have hb24 : (xo == 24) = false := by simpa using h24
        have HPS' := hid (show plc l (k + 1) = p + 1 from by rw [hps]; simp [sz, h24])
        clear hps h24
        go_wp2_with fail
        go_roundw
        case rel => exact ⟨k + 1, by omega, by rw [HPS'.out]; go_num, by go_num, trivial⟩
        case measure => simp [intOf]; omega
    · have hki : k = i := by omega
      have hge : i ≤ k := by omega
      have HK := hid hki
      clear hki
      go_wp2_with fail
      go_ret
      exact ⟨by rw [HK.out]; rfl, rfl⟩
theorem plL_take (l : List In) (k : Nat) (h : k < l.length) : VI ((plL l).take k) ++ [.int .i64 (plc l k : Nat)] = VI ((plL l).take (k + 1)) := by
  have := snocI (plL l) k (by rw [plL_length]; exact h)
  rw [plL_get l k h] at this
  exact this
set_option maxHeartbeats 1000000 in
theorem rplaces_any (a : Option Addr) (n cap : Nat) (l : List In) (w : World) (h : ArgN w a n l) (hn : n ≤ 1000) :
    Calls Try.prog 15 #[.slice a n cap] w (OwnI w (plL l)) := by
  obtain ⟨i0, hi, hz0, hz1, hz2⟩ := info_parts infoInt
  have HA := hid h
  have HN := hid h.1
  have HPN := hid (show (plL l).length = n by rw [plL_length, HN.out])
  have HS := hid (fun k (h : k < n) => plL_take l k (by rw [HN.out]; exact h))
  have HD := hid (show (plL l).take n = plL l from List.take_of_length_le (by rw [HPN.out]; omega))
  clear h
  unfold OwnI
  rw [HPN.out]
  go_enter Try.func15, Try.ntmps15
  go_wp2
  go_loopw [3, 4] (fun v z wr => ∃ k : Nat, k ≤ n ∧ z = .int .i64 k ∧ wr.ownsRow w.heap.size 3 1 v k (VI ((plL l).take k)) ∧ Below w.heap.size w wr) (fun _ z _ => n - (intOf z).toNat)
  case atStart => exact ⟨0, Nat.zero_le _, rfl, World.ownsRow_nil _ _ _ _, Below.refl _ _⟩
  case round =>
    obtain ⟨k, hk, rfl, hown, hbel⟩ := hrel
    by_cases hlt : k < n
    · have HPL := hid (rplace_any a n cap l k wr (HA.out.up hbel) hn (by omega))
      have HO := hid hown
      have HB := hid hbel
      have hsz := hbel.size
      have HSK := hid (HS.out k hlt)
      clear hown hbel
      go_wp2_with fail
      refine HPL.out.mono ?_
      rintro e w2 ⟨rfl, rfl⟩
      obtain ⟨p, hp⟩ : ∃ p, plc l k = p := ⟨_, rfl⟩
      rw [hp] at HSK ⊢
      clear hp
      go_wp2_with (at_builtin; refine wpList_append_own _ rfl _ _ 26 rfl w.heap.size 3 i0 (.int .i64 0) 1 8 Try.underlying26 hi hz0 hz1 hz2 rfl (by decide) _ _ _ rfl (HO.out.alloc _) ⟨w2.heap.size, 0, none⟩ 1 1 [.int .i64 (p : Nat)] rfl rfl ?c1 ?c2 ?c3 ?c4 ?c5 ?_)
      case c1 => exact cell_one_new _ _ _
      case c2 => intro u hu; simp at hu; subst hu; rfl
      case c3 => unfold maxLen; omega
      case c4 => omega
      case c5 => simp; omega
      intro v' w1 hown' hgrow _
      rw [HSK.out] at hown'
      have HO' := hid hown'
      have HB' := hid ((HB.out.alloc hsz (.cells #[.int .i64 (p : Nat)] 3)).grown hgrow (by simp; omega) (fun q hq => (HO.out.alloc (.cells #[.int .i64 (p : Nat)] 3)).lt q hq |>.1))
      clear hgrow hown'
      go_wp2
      go_roundw
      case rel => exact ⟨k + 1, by omega, by go_num, HO'.out, HB'.out⟩
      case measure => simp [intOf]; omega
    · have hkn : k = n := by omega
      have hown2 := hown
      rw [hkn, HD.out] at hown2
      have HO := hid hown2
      have HB := hid hbel
      have hge : n ≤ k := by omega
      clear hown hown2 hkn hbel
      go_wp2
      go_ret
      exact ⟨_, rfl, HO.out, HB.out⟩
end Go.Proofs.Ytfmdljnagkjhdaa.Flow
