/-
  Contracts of the kit's lists of declarations: a copy, a comparison.
-/
import Derived.Test.YtejcjjimhaokfaaDoorListB
namespace Go.Proofs.YtejcjjimhaokfaaDoor.Dcl
open Go.RowKit Go.Proofs.YtejcjjimhaokfaaDoor.Num Go.Proofs.YtejcjjimhaokfaaDoor.ListB
/-- A declaration, as whole numbers: kind, entries, words, buckets, inner. -/
structure In where
  op : Int
  d : Int
  s : Int
  o : Int
  m : Int
theorem In.ext' {a b : In} (h1 : a.op = b.op) (h2 : a.d = b.d) (h3 : a.s = b.s) (h4 : a.o = b.o) (h5 : a.m = b.m) : a = b := by
  cases a; cases b; simp_all
def In.same (a b : In) : Bool := a.op == b.op && a.d == b.d && a.s == b.s && a.o == b.o && a.m == b.m
theorem same_iff (a b : In) : In.same a b = true ↔ a = b := by
  unfold In.same
  simp only [Bool.and_eq_true, beq_iff_eq]
  constructor
  · rintro ⟨⟨⟨⟨h1, h2⟩, h3⟩, h4⟩, h5⟩; exact In.ext' h1 h2 h3 h4 h5
  · rintro rfl; simp
instance : DecidableEq In := fun a b => if h : In.same a b = true then .isTrue ((same_iff a b).1 h) else .isFalse fun e => h ((same_iff a b).2 e)
theorem infoIn : (Tryd.prog.info? 30).map (fun i => (i.zero, i.size, i.bytes)) = some (some (.agg #[.int .i64 0, .int .i64 0, .int .i64 0, .int .i64 0, .int .i64 0]), 5, 40) := by kernel_rfl
def In.vals (x : In) : List Value := [.int .i64 x.op, .int .i64 x.d, .int .i64 x.s, .int .i64 x.o, .int .i64 x.m]
/-- Instructions as the memory holds them. -/
def VN (l : List In) : List Value := l.flatMap In.vals
theorem VN_append (a b : List In) : VN (a ++ b) = VN a ++ VN b := by unfold VN; simp
theorem VN_cons (x : In) (l : List In) : VN (x :: l) = x.vals ++ VN l := by unfold VN; simp
theorem VN_length (l : List In) : (VN l).length = l.length * 5 := by
  induction l with
  | nil => rfl
  | cons x l ih => rw [VN_cons, List.length_append, ih]; simp [In.vals]; omega
theorem VN_get (l : List In) (k : Nat) (x : In) (j : Nat) (u : Value) (h : l[k]? = some x) (hu : x.vals[j]? = some u) : (VN l)[k * 5 + j]? = some u := by
  induction l generalizing k with
  | nil => simp at h
  | cons y l ih =>
    have hj : j < 5 := by have := (List.getElem?_eq_some_iff.1 hu).1; simpa [In.vals] using this
    rw [VN_cons]
    cases k with
    | zero =>
      simp at h
      subst h
      rw [List.getElem?_append_left (by simp [In.vals]; omega), Nat.zero_mul, Nat.zero_add]; exact hu
    | succ k =>
      rw [List.getElem?_append_right (by simp [In.vals]; omega), show (k + 1) * 5 + j - (In.vals y).length = k * 5 + j by simp [In.vals]; omega]
      exact ih k (by simpa using h)
/-- The declarations from 'off' on in block b. -/
def NRow (w : World) (b off : Nat) (l : List In) : Prop :=
  ∀ k x, l[k]? = some x → w.cell? ⟨b, off + k * 5, none⟩ = some (.int .i64 x.op) ∧ w.cell? ⟨b, off + k * 5 + 1, none⟩ = some (.int .i64 x.d) ∧ w.cell? ⟨b, off + k * 5 + 2, none⟩ = some (.int .i64 x.s) ∧ w.cell? ⟨b, off + k * 5 + 3, none⟩ = some (.int .i64 x.o) ∧ w.cell? ⟨b, off + k * 5 + 4, none⟩ = some (.int .i64 x.m)
/-- A slice of declarations that is there to be read: nothing is asked of an empty one. -/
def ArgN (w : World) (a : Option Addr) (len : Nat) (l : List In) : Prop :=
  l.length = len ∧ (0 < len → ∃ b off, a = some ⟨b, off, none⟩ ∧ b < w.heap.size ∧ NRow w b off l)
theorem NRow.below {w w' : World} {b off B : Nat} {l : List In} (h : NRow w b off l) (hb : Below B w w') (hB : b < B) : NRow w' b off l := fun k x hx => by
  obtain ⟨h0, h1, h2, h3, h4⟩ := h k x hx
  exact ⟨(hb.cell (show b < B from hB)).trans h0, (hb.cell (show b < B from hB)).trans h1, (hb.cell (show b < B from hB)).trans h2, (hb.cell (show b < B from hB)).trans h3, (hb.cell (show b < B from hB)).trans h4⟩
theorem ArgN.up {w w' : World} {a : Option Addr} {len : Nat} {l : List In} (h : ArgN w a len l) (hb : Below w.heap.size w w') : ArgN w' a len l := by
  refine ⟨h.1, fun hl => ?_⟩
  obtain ⟨b, off, ha, hw, hc⟩ := h.2 hl
  exact ⟨b, off, ha, Nat.lt_of_lt_of_le hw hb.size, hc.below hb hw⟩
theorem nrow_own {w : World} {base g n c : Nat} {l : List In} (h : w.ownsRow base 30 5 (.slice (some ⟨g, 0, none⟩) n c) n (VN l)) : NRow w g 0 l := fun k x hx => by
  have hk := (List.getElem?_eq_some_iff.1 hx).1
  have hn : l.length * 5 = n * 5 := by rw [← VN_length]; exact h.1
  have c : ∀ j u, j < 5 → x.vals[j]? = some u → w.cell? ⟨g, 0 + k * 5 + j, none⟩ = some u := fun j u hj hu => by
    rw [Nat.zero_add, h.cellAt (k * 5 + j) (by omega)]; exact VN_get l k x j u hx hu
  exact ⟨c 0 _ (by omega) rfl, c 1 _ (by omega) rfl, c 2 _ (by omega) rfl, c 3 _ (by omega) rfl, c 4 _ (by omega) rfl⟩
theorem own_argN {w : World} {base : Nat} {v : Value} {len : Nat} {l : List In} (h : w.ownsRow base 30 5 v len (VN l)) :
    ∃ a cap, v = .slice a len cap ∧ ArgN w a len l := by
  have hn : l.length * 5 = len * 5 := by rw [← VN_length]; exact h.1
  rcases h.2 with ⟨rfl, rfl⟩ | ⟨g, cap, cur, rfl, _⟩
  · exact ⟨none, 0, rfl, by omega, fun h0 => absurd h0 (by omega)⟩
  · exact ⟨_, cap, rfl, by omega, fun h0 => ⟨g, 0, rfl, (h.lt g rfl).2, nrow_own h⟩⟩
theorem VN_snoc (l : List In) (k : Nat) (x : In) (h : l[k]? = some x) : VN (l.take k) ++ x.vals = VN (l.take (k + 1)) := by
  obtain ⟨hk, e⟩ := List.getElem?_eq_some_iff.1 h
  rw [List.take_succ_eq_append_getElem hk, VN_append, e]
  simp [VN]
theorem five_new (w : World) (t : TypeId) (a b c d e : Int) : ∀ (j : Nat) (u : Value), [Value.int .i64 a, .int .i64 b, .int .i64 c, .int .i64 d, .int .i64 e][j]? = some u → (w.alloc (.cells #[.int .i64 a, .int .i64 b, .int .i64 c, .int .i64 d, .int .i64 e] t)).cell? (Addr.add ⟨w.heap.size, 0, none⟩ j) = some u := by
  intro j u hu
  match j, hu with
  | 0, hu => simp at hu; subst hu; simp [Addr.add]
  | 1, hu => simp at hu; subst hu; simp [Addr.add]
  | 2, hu => simp at hu; subst hu; simp [Addr.add]
  | 3, hu => simp at hu; subst hu; simp [Addr.add]
  | 4, hu => simp at hu; subst hu; simp [Addr.add]
  | k + 5, hu => simp at hu
theorem five_one (a b c d e : Int) : ∀ (u : Value), u ∈ [Value.int .i64 a, .int .i64 b, .int .i64 c, .int .i64 d, .int .i64 e] → u.oneCell' = true := by
  intro u hu
  simp at hu
  rcases hu with rfl | rfl | rfl | rfl | rfl <;> rfl
theorem copyN_nil (a : Option Addr) (cap : Nat) (w : World) :
    Calls Tryd.prog 9 #[.slice a 0 cap] w fun e w' => e = .returned (.slice none 0 0) ∧ w = w' := by
  go_enter Tryd.func9, Tryd.ntmps9
  go_wp2
  refine wp_loop_rounds 1 ?_
  rw [rounds_succ]
  go_wp2
  go_ret
  exact ⟨rfl, rfl⟩
def OwnN (w : World) (l : List In) (e : Ending) (w' : World) : Prop :=
  ∃ v, e = .returned v ∧ w'.ownsRow w.heap.size 30 5 v l.length (VN l) ∧ Below w.heap.size w w'
set_option maxHeartbeats 1000000 in
theorem copyN_row (a : Option Addr) (len cap : Nat) (l : List In) (w : World) (h : ArgN w a len l) (h0 : 0 < len) (hl : len ≤ 3518437208881) :
    Calls Tryd.prog 9 #[.slice a len cap] w (OwnN w l) := by
  obtain ⟨hz, hr⟩ := h
  obtain ⟨b, off, rfl, hb, hc⟩ := hr h0
  have HC := hid hc; have HZ := hid hz; clear hc hr hz
  have HS := hid (fun k x h => VN_snoc l k x h)
  obtain ⟨i0, hi, hz0, hz1, hz2⟩ := info_parts infoIn
  unfold OwnN
  rw [HZ.out]
  go_enter Tryd.func9, Tryd.ntmps9
  go_wp2
  go_loopw [3, 4] (fun v i wr => ∃ k : Nat, k ≤ len ∧ i = .int .i64 k ∧ wr.ownsRow w.heap.size 30 5 v k (VN (l.take k)) ∧ Below w.heap.size w wr) (fun _ i _ => len - (intOf i).toNat)
  case atStart => exact ⟨0, Nat.zero_le _, rfl, World.ownsRow_nil _ _ _ _, Below.refl _ _⟩
  case round =>
    obtain ⟨k, hk, rfl, hown, hbel⟩ := hrel
    by_cases hlt : k < len
    · obtain ⟨x, hx⟩ : ∃ x, l[k]? = some x := ⟨_, List.getElem?_eq_getElem (by rw [HZ.out]; exact hlt)⟩
      obtain ⟨c0, c1, c2, c3, c4⟩ := (HC.out.below hbel hb) k x hx
      have HSN := hid (HS.out k x hx)
      clear hx
      obtain ⟨xo, xd, xs, xf, xm⟩ := x
      simp only at c0 c1 c2 c3 c4
      unfold In.vals at HSN
      simp only at HSN
      have hsz := hbel.size
      go_wp2_with (at_builtin; refine wpList_append_own _ rfl _ _ 22 rfl w.heap.size 30 i0 (.agg #[.int .i64 0, .int .i64 0, .int .i64 0, .int .i64 0, .int .i64 0]) 5 40 Tryd.underlying22 hi hz0 hz1 hz2 rfl (by decide) _ _ _ rfl (hown.alloc _) ⟨wr.heap.size, 0, none⟩ 1 1 [.int .i64 xo, .int .i64 xd, .int .i64 xs, .int .i64 xf, .int .i64 xm] rfl rfl ?c1 ?c2 ?c3 ?c4 ?c5 ?_)
      case c1 => exact five_new _ _ _ _ _ _ _
      case c2 => exact five_one _ _ _ _ _
      case c3 => unfold maxLen; omega
      case c4 => omega
      case c5 => simp; omega
      intro v' w1 hown' hgrow _
      rw [HSN.out] at hown'
      have hbel' : Below w.heap.size w w1 := (hbel.alloc hsz _).grown hgrow (by simp; omega) (fun q hq => (hown.alloc (.cells #[.int .i64 xo, .int .i64 xd, .int .i64 xs, .int .i64 xf, .int .i64 xm] 30)).lt q hq |>.1)
      clear hgrow hown hbel c0 c1 c2 c3 c4
      go_wp2
      go_roundw
      case rel => exact ⟨k + 1, by omega, by go_num, hown', hbel'⟩
      case measure => simp [intOf]; omega
    · have hkk : k = len := by omega
      have hown2 := hown
      rw [hkk, List.take_of_length_le (by rw [HZ.out]; omega)] at hown2
      have HO := hid hown2
      clear hown hown2 hkk
      have hge : len ≤ k := by omega
      go_wp2
      go_ret
      exact ⟨_, rfl, HO.out, hbel⟩
theorem copyN_any (a : Option Addr) (len cap : Nat) (l : List In) (w : World) (h : ArgN w a len l) (hl : len ≤ 3518437208881) :
    Calls Tryd.prog 9 #[.slice a len cap] w (OwnN w l) := by
  by_cases h0 : 0 < len
  · exact copyN_row a len cap l w h h0 hl
  · obtain rfl : len = 0 := by omega
    obtain rfl : l = [] := List.length_eq_zero_iff.1 h.1
    refine (copyN_nil a cap w).mono ?_
    rintro e w' ⟨rfl, rfl⟩
    exact ⟨_, rfl, World.ownsRow_nil _ _ _ _, Below.refl _ _⟩
theorem sameN_len (a b : Option Addr) (la lb ca cb : Nat) (w : World) (hne : la ≠ lb) :
    Calls Tryd.prog 12 #[.slice a la ca, .slice b lb cb] w (SamePost false w) := by
  have hd : ((la : Int) != (lb : Int)) = true := by rw [bne_iff_ne]; omega
  go_enter Tryd.func12, Tryd.ntmps12
  go_wp2
  go_ret
  exact ⟨rfl, 0, rfl⟩
theorem sameN_empty (a b : Option Addr) (ca cb : Nat) (w : World) :
    Calls Tryd.prog 12 #[.slice a 0 ca, .slice b 0 cb] w (SamePost true w) := by
  go_enter Tryd.func12, Tryd.ntmps12
  go_wp2
  refine wp_loop_rounds 1 ?_
  rw [rounds_succ]
  go_wp2
  go_ret
  exact ⟨rfl, 0, rfl⟩
theorem extN (za zb : List In) (h1 : za.length = zb.length) (h : ∀ (j : Nat) (x y : In), za[j]? = some x → zb[j]? = some y → x = y) : za = zb := by
  apply List.ext_getElem h1
  intro j hj hj'
  exact h j _ _ (List.getElem?_eq_getElem hj) (List.getElem?_eq_getElem hj')
set_option maxHeartbeats 1000000 in
theorem sameN_row (a b oa ob n ca cb : Nat) (za zb : List In) (w : World) (n1 : n ≤ 9223372036854775807) (ha : za.length = n) (hb : zb.length = n) (hca : NRow w a oa za) (hcb : NRow w b ob zb) :
    Calls Tryd.prog 12 #[.slice (some ⟨a, oa, none⟩) n ca, .slice (some ⟨b, ob, none⟩) n cb] w (SamePost (decide (za = zb)) w) := by
  have HA := hid hca; have HB := hid hcb; have LA := hid ha; have LB := hid hb
  clear hca hcb ha hb
  go_enter Tryd.func12, Tryd.ntmps12
  go_wp2
  go_loopw [5] (fun i wr => ∃ k m : Nat, k ≤ n ∧ i = .int .i64 k ∧ Hid (∀ j x y, j < k → za[j]? = some x → zb[j]? = some y → x = y) ∧ wr = w.drewN m) (fun i _ => n - (intOf i).toNat)
  case atStart => exact ⟨0, 0, Nat.zero_le _, rfl, hid (fun j x y hj => by omega), rfl⟩
  case round =>
    obtain ⟨k, m, hk, rfl, HE, rfl⟩ := hrel
    by_cases hlt : k < n
    · obtain ⟨x, hx⟩ : ∃ x, za[k]? = some x := ⟨_, List.getElem?_eq_getElem (by rw [LA.out]; exact hlt)⟩
      obtain ⟨y, hy⟩ : ∃ x, zb[k]? = some x := ⟨_, List.getElem?_eq_getElem (by rw [LB.out]; exact hlt)⟩
      obtain ⟨c0, c1, c2, c3, c4⟩ := HA.out k x hx
      obtain ⟨d0, d1, d2, d3, d4⟩ := HB.out k y hy
      have hk0 : (0 : Int) ≤ (k : Int) := by omega
      have hk1 : (k : Int) < (n : Int) := by omega
      by_cases he : x = y
      · have hE2 : Hid (∀ j x y, j < k + 1 → za[j]? = some x → zb[j]? = some y → x = y) := hid fun j x' y' hj h1 h2 => by
          by_cases hjk : j = k
          · subst hjk; rw [hx] at h1; rw [hy] at h2; cases h1; cases h2; exact he
          · exact HE.out j x' y' (by omega) h1 h2
        clear hx hy
        subst he
        obtain ⟨xo, xd, xs, xf, xm⟩ := x
        simp only at c0 c1 c2 c3 c4 d0 d1 d2 d3 d4
        go_wp2
        go_quiet (fail)
        go_wp2
        go_roundw
        case rel => exact ⟨k + 1, _, by omega, by go_num, hE2, rfl⟩
        case measure => simp [intOf]; omega
      · have hne : decide (za = zb) = false := by rw [decide_eq_false_iff_not]; intro h; apply he; rw [h, hy] at hx; cases hx; rfl
        have Hne := hid hne
        have hbne : In.same x y = false := Bool.eq_false_iff.2 fun h => he ((same_iff x y).1 h)
        clear hx hy he hne
        obtain ⟨xo, xd, xs, xf, xm⟩ := x
        obtain ⟨yo, yd, ys, yf, ym⟩ := y
        simp only at c0 c1 c2 c3 c4 d0 d1 d2 d3 d4
        have hd : xo ≠ yo ∨ xo = yo ∧ (xd ≠ yd ∨ xd = yd ∧ (xs ≠ ys ∨ xs = ys ∧ (xf ≠ yf ∨ xf = yf ∧ xm ≠ ym))) := by
          unfold In.same at hbne
          simp at hbne
          by_cases e0 : xo = yo
          · by_cases e1 : xd = yd
            · by_cases e2 : xs = ys
              · by_cases e3 : xf = yf
                · exact Or.inr ⟨e0, Or.inr ⟨e1, Or.inr ⟨e2, Or.inr ⟨e3, hbne e0 e1 e2 e3⟩⟩⟩⟩
                · exact Or.inr ⟨e0, Or.inr ⟨e1, Or.inr ⟨e2, Or.inl e3⟩⟩⟩
              · exact Or.inr ⟨e0, Or.inr ⟨e1, Or.inl e2⟩⟩
            · exact Or.inr ⟨e0, Or.inl e1⟩
          · exact Or.inl e0
        clear hbne
        rcases hd with e | ⟨rfl, e | ⟨rfl, e | ⟨rfl, e | ⟨rfl, e⟩⟩⟩⟩
        · have b0 : (xo == yo) = false := by simpa using e
          clear e
          go_wp2
          go_quiet (fail)
          go_wp2
          go_ret
          exact ⟨by rw [Hne.out]; rfl, _, World.drewN_drewN _ _ _⟩
        · have b0 : (xd == yd) = false := by simpa using e
          clear e
          go_wp2
          go_quiet (fail)
          go_wp2
          go_ret
          exact ⟨by rw [Hne.out]; rfl, _, World.drewN_drewN _ _ _⟩
        · have b0 : (xs == ys) = false := by simpa using e
          clear e
          go_wp2
          go_quiet (fail)
          go_wp2
          go_ret
          exact ⟨by rw [Hne.out]; rfl, _, World.drewN_drewN _ _ _⟩
        · have b0 : (xf == yf) = false := by simpa using e
          clear e
          go_wp2
          go_quiet (fail)
          go_wp2
          go_ret
          exact ⟨by rw [Hne.out]; rfl, _, World.drewN_drewN _ _ _⟩
        · have b0 : (xm == ym) = false := by simpa using e
          clear e
          go_wp2
          go_quiet (fail)
          go_wp2
          go_ret
          exact ⟨by rw [Hne.out]; rfl, _, World.drewN_drewN _ _ _⟩
    · have hkn : k = n := by omega
      have hall : decide (za = zb) = true := by
        rw [decide_eq_true_eq]
        exact extN za zb (LA.out.trans LB.out.symm) (fun j x y h1 h2 => HE.out j x y (by rw [hkn, ← LA.out]; exact (List.getElem?_eq_some_iff.1 h1).1) h1 h2)
      have Hall := hid hall
      have hge : n ≤ k := by omega
      clear hkn hall
      go_wp2
      go_ret
      exact ⟨by rw [Hall.out]; rfl, _, rfl⟩
end Go.Proofs.YtejcjjimhaokfaaDoor.Dcl
