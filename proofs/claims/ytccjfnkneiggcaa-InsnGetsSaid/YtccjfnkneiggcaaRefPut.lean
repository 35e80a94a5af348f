/-
  The document's Put.
-/
import Derived.Test.YtccjfnkneiggcaaPutR
import Derived.Maps.AppendAt
namespace Go.Proofs.Ytccjfnkneiggcaa.Insn
open Go.RowKit Go.Proofs.Ytccjfnkneiggcaa.Num Go.Proofs.Ytccjfnkneiggcaa.ListB
/-- Block X of w is an instruction. -/
def XB (w : World) (X : Nat) (x : In) : Prop := w.heap[X]? = some (.cells #[.int .i64 x.op, .int .i64 x.d, .int .i64 x.s, .int .i64 x.o, .int .i64 x.m] 23 (0, 0))
theorem XB.lt {w : World} {X : Nat} {x : In} (h : XB w X x) : X < w.heap.size := (Array.getElem?_eq_some_iff.1 h).1
theorem XB.cells {w : World} {X : Nat} {x : In} (h : XB w X x) : w.cell? ⟨X, 0, none⟩ = some (.int .i64 x.op) ∧ w.cell? ⟨X, 1, none⟩ = some (.int .i64 x.d) ∧ w.cell? ⟨X, 2, none⟩ = some (.int .i64 x.s) ∧ w.cell? ⟨X, 3, none⟩ = some (.int .i64 x.o) ∧ w.cell? ⟨X, 4, none⟩ = some (.int .i64 x.m) :=
  ⟨cell_of_row w X 0 _ _ (0, 0) h, cell_of_row w X 1 _ _ (0, 0) h, cell_of_row w X 2 _ _ (0, 0) h, cell_of_row w X 3 _ _ (0, 0) h, cell_of_row w X 4 _ _ (0, 0) h⟩
theorem XB.new (w : World) (x : In) : XB (w.alloc (.cells #[.int .i64 x.op, .int .i64 x.d, .int .i64 x.s, .int .i64 x.o, .int .i64 x.m] 23)) w.heap.size x := heap_alloc_new w _
theorem XB.ne {w : World} {X base n : Nat} {x : In} {v : Value} {xs : List Value} (h : XB w X x) (ho : w.ownsRow base 5 1 v n xs) : some X ≠ v.ownBlock := by
  rcases ho.2 with ⟨rfl, _⟩ | ⟨g, cap, cur, rfl, _, hh, _⟩
  · simp [Value.ownBlock]
  · intro he
    have : X = g := by simpa [Value.ownBlock] using he
    subst this
    unfold XB at h
    rw [h] at hh
    injection hh with hh
    injection hh with _ ht
    exact absurd ht (by decide)
/-- While bytes are put together: the bytes, the instruction, what was. -/
structure St (w0 w : World) (X : Nat) (x : In) (v : Value) (cs : List Int) : Prop where
  own : w.ownsRow w0.heap.size 5 1 v cs.length (V cs)
  xb : XB w X x
  bel : Below w0.heap.size w0 w
theorem St.up {w0 w w' : World} {X : Nat} {x : In} {v : Value} {cs : List Int} (h : St w0 w X x v cs) (hb : Below w.heap.size w w') : St w0 w' X x v cs :=
  ⟨h.own.kept (grown_of2 hb) (Classical.em _), (hb.block X h.xb.lt).trans h.xb, h.bel.trans (hb.mono h.bel.size)⟩
theorem St.alloc {w0 w : World} {X : Nat} {x : In} {v : Value} {cs : List Int} (h : St w0 w X x v cs) (o : Obj) : St w0 (w.alloc o) X x v cs := h.up (below_new w o)
theorem wpList_app {ops : Array Oper} {rest : List Oper} {o : Oper} {a : Act} {Q : Exit → Act → World → Prop} (w : World) (hgd : o.guard = none) (s y : Operand) (ho : o.op = .call { callee := .builtin .append, args := #[s, y], argTypes := #[33, 33] })
    (w0 : World) (X : Nat) (x : In) (v : Value) (cs : List Int) (hs : a.eval s = v) (hst : St w0 w X x v cs) (ad : Addr) (m c : Nat) (ns : List Int) (hy : a.eval y = .slice (some ad) m c) (hl : ns.length = m) (hn : ∀ j u, (V ns)[j]? = some u → w.cell? (ad.add j) = some u)
    (hb : cs.length + m ≤ 100000)
    (h : ∀ v' w', St w0 w' X x v' (cs ++ ns) → w.grownBy w' v.ownBlock → (v'.ownBlock = v.ownBlock ∨ v'.ownBlock = some w.heap.size) → wpList Try.prog ops Q rest (a.put o.dst v') w') : wpList Try.prog ops Q (o :: rest) a w := by
  obtain ⟨i0, hi, hz0, hz1, hz2⟩ := info_parts info8
  refine wpList_append_own_at w hgd s y 33 ho w0.heap.size 5 i0 (.int .u8 0) 1 1 Try.underlying33 hi hz0 hz1 hz2 rfl (by decide) v _ _ hs hst.own ad m c (V ns) hy (by unfold V; simp [hl]) hn (V_one ns) (by unfold maxLen; omega) (by omega) hst.bel.size ?_
  intro v' w' hown hgr _ hat
  refine h v' w' ⟨?_, (hgr.block X hst.xb.lt (hst.xb.ne hst.own)).trans hst.xb, hst.bel.grown hgr hst.bel.size (fun k hk => (hst.own.lt k hk).1)⟩ hgr hat
  rw [V_append, List.length_append, hl]; exact hown
theorem two_bytes (w : World) (t : TypeId) (a b : Int) : ∀ j u, (V [a, b])[j]? = some u → (w.alloc (.cells #[.int .u8 a, .int .u8 b] t)).cell? ((⟨w.heap.size, 0, none⟩ : Addr).add j) = some u := by
  intro j u hu
  unfold V at hu
  match j, hu with
  | 0, hu => simp at hu; subst hu; simp [Addr.add]
  | 1, hu => simp at hu; subst hu; simp [Addr.add]
  | k + 2, hu => simp at hu
theorem four_bytes (w : World) (t : TypeId) (a b c d : Int) : ∀ j u, (V [a, b, c, d])[j]? = some u → (w.alloc (.cells #[.int .u8 a, .int .u8 b, .int .u8 c, .int .u8 d] t)).cell? ((⟨w.heap.size, 0, none⟩ : Addr).add j) = some u := by
  intro j u hu
  unfold V at hu
  match j, hu with
  | 0, hu => simp at hu; subst hu; simp [Addr.add]
  | 1, hu => simp at hu; subst hu; simp [Addr.add]
  | 2, hu => simp at hu; subst hu; simp [Addr.add]
  | 3, hu => simp at hu; subst hu; simp [Addr.add]
  | k + 4, hu => simp at hu
def LaidPost (n : Nat) (v : Int) (w : World) (e : Ending) (w' : World) : Prop :=
  ∃ g c, e = .returned (.slice (some ⟨g, 0, none⟩) n c) ∧ w.heap.size ≤ g ∧ g < w'.heap.size ∧ n ≤ c ∧ w'.ownsRow w.heap.size 5 1 (.slice (some ⟨g, 0, none⟩) n c) n (V (laidL (unsig v) n)) ∧ (∀ j u, (V (laidL (unsig v) n))[j]? = some u → w'.cell? ((⟨g, 0, none⟩ : Addr).add j) = some u) ∧ Below w.heap.size w w'
theorem laid_n (v : Int) (n : Nat) (w : World) (h0 : 0 < n) (hn : n ≤ 8) : Calls Try.prog 44 #[.int .i64 v, .int .i64 n] w (LaidPost n v w) := by
  refine (laid_any v n w hn).mono ?_
  rintro e w' ⟨o, rfl, hown, hb⟩
  obtain ⟨g, c, rfl⟩ := own_shapeG hown h0
  have hl := hown.lt g rfl
  refine ⟨g, c, rfl, hl.1, hl.2, ?_, hown, own_cells hown, hb⟩
  rcases hown.2 with ⟨h', _⟩ | ⟨g', c', cur, h', _, _, hle, _⟩
  · cases h'
  · cases h'; exact hle
theorem laid_2 (v : Int) (w : World) : Calls Try.prog 44 #[.int .i64 v, .int .i64 2] w (LaidPost 2 v w) := laid_n v 2 w (by omega) (by omega)
theorem laid_4 (v : Int) (w : World) : Calls Try.prog 44 #[.int .i64 v, .int .i64 4] w (LaidPost 4 v w) := laid_n v 4 w (by omega) (by omega)
theorem laid_8 (v : Int) (w : World) : Calls Try.prog 44 #[.int .i64 v, .int .i64 8] w (LaidPost 8 v w) := laid_n v 8 w (by omega) (by omega)
theorem take_cells {w : World} {base g n c m : Nat} {zs : List Int} (h : w.ownsRow base 5 1 (.slice (some ⟨g, 0, none⟩) n c) n (V zs)) : ∀ j u, (V (zs.take m))[j]? = some u → w.cell? ((⟨g, 0, none⟩ : Addr).add j) = some u := fun j u hu => by
  refine own_cells h j u ?_
  unfold V at hu ⊢
  rw [List.map_take, List.getElem?_take] at hu
  split at hu
  · exact hu
  · cases hu
theorem drop_cells {w : World} {base g n c m : Nat} {zs : List Int} (h : w.ownsRow base 5 1 (.slice (some ⟨g, 0, none⟩) n c) n (V zs)) : ∀ j u, (V (zs.drop m))[j]? = some u → w.cell? ((⟨g, m, none⟩ : Addr).add j) = some u := fun j u hu => by
  have e : (⟨g, m, none⟩ : Addr).add j = (⟨g, 0, none⟩ : Addr).add (m + j) := by unfold Addr.add; split <;> split <;> simp_all
  rw [e]
  refine own_cells h (m + j) u ?_
  unfold V at hu ⊢
  rw [List.map_drop, List.getElem?_drop] at hu
  exact hu
theorem rput_many (a : Option Addr) (len cap : Nat) (l : List In) (w : World) (h : ArgN w a len l) (hl : 256 < len) (hl2 : len ≤ 9223372036854775807) :
    Calls Try.prog 20 #[.slice a len cap] w (PutPost w l) := by
  have HP := hid (put_many w w l (by rw [h.1]; exact hl) (Below.refl _ _))
  clear h
  go_enter Try.func20, Try.ntmps20
  go_wp2_with fail
  go_ret2
  exact HP.out
set_option maxHeartbeats 4000000 in
theorem rput_row (a : Option Addr) (len cap : Nat) (l : List In) (w : World) (h : ArgN w a len l) (hl : len ≤ 256) :
    Calls Try.prog 20 #[.slice a len cap] w (PutPost w l) := by
  have HA := hid h
  have hz := h.1
  have HP1 := hid (fun w' k x hok hx hc hb => put_bad w w' l k x (by omega) hok hx hc hb)
  have HP2 := hid (fun w' v n hok hn hown hb => put_good w w' l v n (by omega) hok hn hown hb)
  have HZ := hid hz
  clear h hz
  go_enter Try.func20, Try.ntmps20
  go_wp2
  go_loopw [4, 5] (fun v i wr => ∃ k : Nat, k ≤ len ∧ i = .int .i64 k ∧ Hid (AllOk (l.take k)) ∧ wr.ownsRow w.heap.size 5 1 v (enc (l.take k)).length (V (enc (l.take k))) ∧ Below w.heap.size w wr) (fun _ i _ => len - (intOf i).toNat)
  case atStart => exact ⟨0, Nat.zero_le _, rfl, hid allOk_nil, World.ownsRow_nil _ _ _ _, Below.refl _ _⟩
  case round =>
    obtain ⟨k, hk, rfl, hok, hown, hbel⟩ := hrel
    by_cases hlt : k < len
    · obtain ⟨x, hx⟩ : ∃ x, l[k]? = some x := ⟨_, List.getElem?_eq_getElem (by rw [HZ.out]; exact hlt)⟩
      obtain ⟨b, off, rfl, hb, hc⟩ := HA.out.2 (by omega)
      obtain ⟨c0, c1, c2, c3, c4⟩ := (hc.below hbel hb) k x hx
      have HX := hid hx
      have HCK := hid (fun w => check_any x.op x.d x.s x.o x.m w)
      rw [show Insn.chk x.op x.d x.s x.o x.m = x.chk from rfl] at HCK
      clear hx hc hb
      have HO := hid hown
      have HB := hid hbel
      have hsz := hbel.size
      have hst := hid (enc_snoc l k x HX.out)
      have hle := enc_le (l.take k)
      have hle2 : (l.take k).length ≤ k := List.length_take_le _ _
      obtain ⟨q, hq⟩ : ∃ q, x.chk = q := ⟨_, rfl⟩
      rw [hq] at HCK
      have HQ := hid hq
      have HXB := hid (XB.new wr x)
      clear hq hown hbel
      obtain ⟨xo, xd, xs, xf, xm⟩ := x
      unfold insnV at HCK
      simp only at c0 c1 c2 c3 c4 HCK HXB
      go_wp2_with fail
      refine (HCK.out _).mono ?_
      rintro e w2 ⟨rfl, hb2⟩
      have HB2 := hid ((below_new wr (.cells #[.int .i64 xo, .int .i64 xd, .int .i64 xs, .int .i64 xf, .int .i64 xm] 23)).trans (hb2.mono (by simp)))
      have hS2 : St w w2 wr.heap.size ⟨xo, xd, xs, xf, xm⟩ _ (enc (l.take k)) := ⟨HO.out.kept (grown_of2 HB2.out) (Classical.em _), (hb2.block wr.heap.size (by simp)).trans HXB.out, HB.out.trans (HB2.out.mono hsz)⟩
      have HS2 := hid hS2
      clear hb2 c0 c1 c2 c3 c4 hS2
      by_cases h0 : q = 0
      · subst h0
        have hfine := fine_of HQ.out
        obtain ⟨o0, o1⟩ := hfine.op
        obtain ⟨d0, d1⟩ := hfine.d
        obtain ⟨s0, s1⟩ := hfine.s
        clear hfine
        obtain ⟨y0, y1, y2, _, _⟩ := HS2.out.xb.cells
        simp only at o0 o1 d0 d1 s0 s1 y0 y1 y2
        go_wp2_with (at_builtin; refine wpList_app _ rfl _ _ rfl w wr.heap.size ⟨xo, xd, xs, xf, xm⟩ _ _ rfl (HS2.out.alloc _) ⟨w2.heap.size, 0, none⟩ 2 2 [xo, xd + 16 * xs] rfl rfl ?n1 ?n2 ?_)
        case n1 => exact two_bytes _ _ _ _
        case n2 => omega
        intro v3 w3 hst3 _ _
        obtain ⟨cs3, h3⟩ : ∃ c, enc (l.take k) ++ [xo, xd + 16 * xs] = c := ⟨_, rfl⟩
        rw [h3] at hst3
        have HC3 := hid h3
        have HL3 : cs3.length ≤ 16 * k + 2 := by rw [← h3, List.length_append]; first | omega | (rw [laidL_length]; omega) | (rw [List.length_take, laidL_length]; omega) | (simp only [List.length_cons, List.length_nil]; omega)
        clear h3
        obtain ⟨_, _, _, y3, _⟩ := hst3.xb.cells
        simp only at y3
        have HS3 := hid hst3
        clear hst3 y0 y1 y2
        go_wp2_with fail
        refine (laid_2 _ _).mono ?_
        rintro e w4 ⟨g4, p4, rfl, hg4, hg4', hp4, hown4, hc4, hb4⟩
        have HS4 := hid (HS3.out.up hb4)
        have HD4 := hid hc4
        clear hb4 hc4 hown4 y3
        go_wp2_with (at_builtin; refine wpList_app _ rfl _ _ rfl w wr.heap.size ⟨xo, xd, xs, xf, xm⟩ _ _ rfl HS4.out ⟨g4, 0, none⟩ 2 p4 (laidL (unsig xf) 2) rfl (laidL_length _ _) HD4.out ?n3 ?_)
        case n3 => omega
        intro v5 w5 hst5 _ _
        obtain ⟨cs5, h5⟩ : ∃ c, cs3 ++ laidL (unsig xf) 2 = c := ⟨_, rfl⟩
        rw [h5] at hst5
        have HC5 := hid h5
        have HL5 : cs5.length ≤ 16 * k + 4 := by rw [← h5, List.length_append]; first | omega | (rw [laidL_length]; omega) | (rw [List.length_take, laidL_length]; omega) | (simp only [List.length_cons, List.length_nil]; omega)
        clear h5
        obtain ⟨y0, _, _, _, y4⟩ := hst5.xb.cells
        simp only at y0 y4
        have HS5 := hid hst5
        clear hst5 HD4
        by_cases h24 : xo = 24
        · have b24 : (xo != 24) = false := by simp [h24]
          have HE6 := hid (show cs5 ++ (laidL (unsig xm) 8).take 4 ++ [0, 0, 0, 0] ++ (laidL (unsig xm) 8).drop 4 = enc (l.take (k + 1)) from by
            rw [← hst.out, ← HC5.out, ← HC3.out]; unfold encOne; simp only; rw [if_pos h24, laidL_8, List.take_left' (laidL_length _ _)]; simp [List.append_assoc])
          clear h24
          go_wp2_with fail
          refine (laid_8 _ _).mono ?_
          rintro e w6 ⟨g6, p6, rfl, hg6, hg6', hp6, hown6, hc6, hb6⟩
          have HS6 := hid (HS5.out.up hb6)
          have HO6 := hid hown6
          have hv5 : v5.ownBlock ≠ some g6 := fun e => by have := (HS5.out.own.lt _ e).2; omega
          clear hb6 hc6 hown6 y0 y4
          have T6 := hid (take_cells (m := 4) HO6.out)
          have cne : ¬ p6 = 4 := by omega
          go_wp2_with (at_builtin; refine wpList_app _ rfl _ _ rfl w wr.heap.size ⟨xo, xd, xs, xf, xm⟩ _ _ rfl HS6.out ⟨g6, 0, none⟩ 4 p6 ((laidL (unsig xm) 8).take 4) rfl (by rw [List.length_take, laidL_length]; rfl) T6.out ?n5 ?_)
          case n5 => omega
          intro v7 w7 hst7 hgr7 hat7
          obtain ⟨cs7, h7⟩ : ∃ c, cs5 ++ (laidL (unsig xm) 8).take 4 = c := ⟨_, rfl⟩
          rw [h7] at hst7
          have HC7 := hid h7
          have HL7 : cs7.length ≤ 16 * k + 8 := by rw [← h7, List.length_append]; first | omega | (rw [laidL_length]; omega) | (rw [List.length_take, laidL_length]; omega) | (simp only [List.length_cons, List.length_nil]; omega)
          clear h7
          have HO7 := hid (HO6.out.kept hgr7 (Or.inr (by simp [Value.ownBlock]; exact fun e => hv5 e.symm)))
          have hv7 : v7.ownBlock ≠ some g6 := fun e => by
            rcases hat7 with h | h
            · exact hv5 (h ▸ e)
            · rw [h] at e; injection e with e; omega
          have HS7 := hid hst7
          have hs7 := hgr7.size
          clear hst7 hgr7 hat7 T6
          go_wp2_with (at_builtin; refine wpList_app _ rfl _ _ rfl w wr.heap.size ⟨xo, xd, xs, xf, xm⟩ _ _ rfl (HS7.out.alloc _) ⟨w7.heap.size, 0, none⟩ 4 4 [0, 0, 0, 0] rfl rfl ?n6 ?n7 ?_)
          case n6 => exact four_bytes _ _ _ _ _ _
          case n7 => omega
          intro v8 w8 hst8 hgr8 hat8
          obtain ⟨cs8, h8⟩ : ∃ c, cs7 ++ [0, 0, 0, 0] = c := ⟨_, rfl⟩
          rw [h8] at hst8
          have HC8 := hid h8
          have HL8 : cs8.length ≤ 16 * k + 12 := by rw [← h8, List.length_append]; first | omega | (rw [laidL_length]; omega) | (rw [List.length_take, laidL_length]; omega) | (simp only [List.length_cons, List.length_nil]; omega)
          clear h8
          have HO8 := hid ((HO7.out.alloc (.cells #[.int .u8 0, .int .u8 0, .int .u8 0, .int .u8 0] 5)).kept hgr8 (Or.inr (by simp [Value.ownBlock]; exact fun e => hv7 e.symm)))
          have HS8 := hid hst8
          clear hst8 hgr8 hat8
          have T8 := hid (drop_cells (m := 4) HO8.out)
          go_wp2_with (at_builtin; refine wpList_app _ rfl _ _ rfl w wr.heap.size ⟨xo, xd, xs, xf, xm⟩ _ _ rfl HS8.out ⟨g6, 4, none⟩ 4 (p6 - 4) ((laidL (unsig xm) 8).drop 4) rfl (by rw [List.length_drop, laidL_length]) T8.out ?n8 ?_)
          case n8 => omega
          intro v9 w9 hst9 _ _
          rw [← HC8.out, ← HC7.out, HE6.out] at hst9
          have HS9 := hid hst9
          clear hst9 T8
          have HK := hid (allOk_snoc hok.out HX.out HQ.out)
          go_wp2_with fail
          go_roundw
          case rel => exact ⟨k + 1, by omega, by go_num, HK, HS9.out.own, HS9.out.bel⟩
          case measure => simp [intOf]; omega
        · have b24 : (xo != 24) = true := by simpa using h24
          have HE6 := hid (show cs5 ++ laidL (unsig xm) 4 = enc (l.take (k + 1)) from by
            rw [← hst.out, ← HC5.out, ← HC3.out]; unfold encOne; simp only; rw [if_neg h24]; simp [List.append_assoc])
          clear h24
          go_wp2_with fail
          refine (laid_4 _ _).mono ?_
          rintro e w6 ⟨g6, p6, rfl, hg6, hg6', hp6, hown6, hc6, hb6⟩
          have HS6 := hid (HS5.out.up hb6)
          have HC6 := hid hc6
          clear hb6 hc6 hown6 y0 y4
          go_wp2_with (at_builtin; refine wpList_app _ rfl _ _ rfl w wr.heap.size ⟨xo, xd, xs, xf, xm⟩ _ _ rfl HS6.out ⟨g6, 0, none⟩ 4 p6 (laidL (unsig xm) 4) rfl (laidL_length _ _) HC6.out ?n4 ?_)
          case n4 => omega
          intro v7 w7 hst7 _ _
          rw [HE6.out] at hst7
          have HS7 := hid hst7
          clear hst7 HC6
          have HK := hid (allOk_snoc hok.out HX.out HQ.out)
          go_wp2_with fail
          go_roundw
          case rel => exact ⟨k + 1, by omega, by go_num, HK, HS7.out.own, HS7.out.bel⟩
          case measure => simp [intOf]; omega
      · have hne : (q != 0) = true := by simpa using h0
        have HF := hid (HP1.out w2 k _ hok.out HX.out (by rw [HQ.out]; exact h0) (HB.out.trans (HB2.out.mono hsz)))
        rw [HQ.out] at HF
        clear h0
        go_wp2_with fail
        go_ret2
        exact HF.out
    · have hkk : k = len := by omega
      have hz2 : l.take k = l := List.take_of_length_le (by rw [HZ.out]; omega)
      rw [hz2] at hown hok
      have HF := hid (HP2.out wr _ _ hok.out rfl hown hbel)
      clear hown hbel hz2 hkk
      have hge : len ≤ k := by omega
      go_wp2_with fail
      go_ret2
      exact HF.out
end Go.Proofs.Ytccjfnkneiggcaa.Insn
