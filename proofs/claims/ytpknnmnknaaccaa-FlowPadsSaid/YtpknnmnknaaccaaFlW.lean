/-
  The walk of the law FlowKnown: the chapter's examples; loops, ends, and what is never reached.
-/
import Derived.Test.YtpknnmnknaaccaaFlI
import Derived.Test.YtpknnmnknaaccaaFlS
namespace Go.Proofs.Ytpknnmnknaaccaa.Flow
open Go.RowKit Go.Proofs.Ytpknnmnknaaccaa.Num Go.Proofs.Ytpknnmnknaaccaa.ListB Go.Proofs.Ytpknnmnknaaccaa.Insn
theorem argN_nil (w : World) : ArgN w none 0 [] := ⟨rfl, fun h => absurd h (by omega)⟩
theorem vals_one (x : In) : ∀ u ∈ VN [x], u.oneCell' = true := by
  intro u hu
  simp [VN, In.vals] at hu
  rcases hu with rfl | rfl | rfl | rfl | rfl <;> rfl
theorem wpList_appN1 {ops : Array Oper} {rest : List Oper} {o : Oper} {ac : Act} {Q : Exit → Act → World → Prop} (w : World) (hw : Region.wanted o (yielded ops ac.tmps) = true) (s x : Operand)
    (ho : o.op = .call { callee := .builtin .append, args := #[s, x], argTypes := #[22, 22] })
    (base : Nat) (v : Value) (n : Nat) (T : List In) (hs : ac.eval s = v) (hown : w.ownsRow base 35 5 v n (VN T)) (k c : Nat) (z : In) (hx : ac.eval x = .slice (some ⟨k, 0, none⟩) 1 c)
    (hc : ∀ j u, z.vals[j]? = some u → w.cell? ⟨k, j, none⟩ = some u) (hn : n ≤ 1000) (hbase : base ≤ w.heap.size)
    (h : ∀ v' w', w'.ownsRow base 35 5 v' (n + 1) (VN (T ++ [z])) → w.grownBy w' v.ownBlock → Moved w w' v v' → wpList Try.prog ops Q rest (ac.put o.dst v') w') : wpList Try.prog ops Q (o :: rest) ac w := by
  obtain ⟨i0, hi, hz0, hz1, hz2⟩ := info_parts infoIn
  refine wpList_app w hw s x 22 ho base 35 i0 (.agg #[.int .i64 0, .int .i64 0, .int .i64 0, .int .i64 0, .int .i64 0]) Try.underlying22 hi hz0 (by rw [hz1]; rfl) (by rw [hz1]; omega) v n (VN T) hs (by rw [hz1]; exact hown) ⟨k, 0, none⟩ 1 c (VN [z]) hx (by rw [hz1]; rfl) (fun j u hu => ?_) (vals_one z) (by omega) (by unfold maxLen; omega) (by rw [hz2]; omega) hbase ?_
  · have e : (⟨k, 0, none⟩ : Addr).add j = ⟨k, j, none⟩ := by unfold Addr.add; split <;> simp_all
    rw [e]
    exact hc j u (by simpa [VN] using hu)
  · intro v' w' h1 h2 h3
    rw [hz1, ← VN_append] at h1
    exact h v' w' h1 h2 h3
theorem new_vals {w : World} {k : Nat} {T : TypeId} (z : In) (hk : w.heap.size = k) : ∀ j u, z.vals[j]? = some u → (w.alloc (.cells #[.int .i64 z.op, .int .i64 z.d, .int .i64 z.s, .int .i64 z.o, .int .i64 z.m] T)).cell? ⟨k, j, none⟩ = some u := fun j u hu => new_cell hk (by simpa [In.vals] using hu)
/-- What was a row is one still, behind an append to it. -/
theorem still_argN {w w' : World} {base n c : Nat} {a : Option Addr} {v' : Value} {T : List In} {z : In} (hown : w.ownsRow base 35 5 (.slice a n c) n (VN T)) (h1 : w'.ownsRow base 35 5 v' (n + 1) (VN (T ++ [z]))) (hm : Moved w w' (.slice a n c) v') : ArgN w' a n T := by
  obtain ⟨a2, c2, he, ha⟩ := own_argN hown
  cases he
  rcases hm with hm | ⟨hb, _⟩
  · refine ⟨ha.1, fun h0 => ?_⟩
    obtain ⟨b, off, rfl, hlt, _⟩ := ha.2 h0
    rcases h1.2 with ⟨rfl, h2⟩ | ⟨g, cap, cur, rfl, h2⟩
    · omega
    · have hg : g = b := by simpa [Value.ownBlock] using hm
      subst hg
      obtain ⟨g2, c3, he⟩ := own_shapeG hown h0
      cases he
      exact ⟨g, 0, rfl, (h1.lt g rfl).2, nrow_left (nrow_own h1)⟩
  · exact ha.up hb
theorem wanted_new {w0 cur : World} (hb : Below w0.heap.size w0 cur) (zs : List Int) (cs : Array Value) (h : cs.toList = VI zs) : Hid (ArgI (cur.alloc (.cells cs 3)) (.slice (some ⟨cur.heap.size, 0, none⟩) zs.length zs.length) zs) ∧ Hid (Below w0.heap.size w0 (cur.alloc (.cells cs 3))) :=
  ⟨hid (argI_new zs rfl rfl h), hid (hb.alloc hb.size _)⟩
theorem nextK {cur : World} (n : Nat) (l : List In) (ts res : List Int) (c1 c2 : Array Value) (h1 : c1.toList = VN l) (h2 : c2.toList = VI ts) (hl : l.length = n) (ht : ts.length = n) (hn : 0 < n) (hn2 : n ≤ 1000) (hr : nxI (at' l 0).op 0 (ts.getD 0 0) = res) :
    Calls Try.prog 19 #[.slice (some ⟨cur.heap.size, 0, none⟩) n n, .slice (some ⟨cur.heap.size + 1, 0, none⟩) n n, .int .i64 0] ((cur.alloc (.cells c1 35)).alloc (.cells c2 3))
      fun e w' => ∃ v, e = .returned v ∧ ArgI w' v res ∧ Below ((cur.alloc (.cells c1 35)).alloc (.cells c2 3)).heap.size ((cur.alloc (.cells c1 35)).alloc (.cells c2 3)) w' := by
  have ha : ArgN ((cur.alloc (.cells c1 35)).alloc (.cells c2 3)) (some ⟨cur.heap.size, 0, none⟩) n l := hl ▸ (argN_new l rfl h1).up (below_new _ _)
  have ht' : ArgI ((cur.alloc (.cells c1 35)).alloc (.cells c2 3)) (.slice (some ⟨cur.heap.size + 1, 0, none⟩) n n) ts := argI_new ts (by simp) ht h2
  have h := next_any (some ⟨cur.heap.size, 0, none⟩) n n l _ ts 0 _ ha ht' hn2 hn (by omega) (by omega)
  rw [show ((0 : Nat) : Int) = 0 from rfl, hr] at h
  refine h.mono ?_
  rintro e w' ⟨v, rfl, ho, hb⟩
  exact ⟨v, rfl, own_argI ho, hb⟩
theorem jumpsK (op d s o m : Int) (b : Bool) (h : jmpB op = b) (w : World) : Calls Try.prog 17 #[.agg #[.int .i64 op, .int .i64 d, .int .i64 s, .int .i64 o, .int .i64 m]] w fun e w' => e = .returned (.bool b) ∧ Below w.heap.size w w' := by
  have := jumps_any ⟨op, d, s, o, m⟩ w
  unfold insnV at this
  simp only [h] at this
  exact this
def movs (k : Nat) : List In := List.replicate k movI
theorem movs_snoc (k : Nat) : VN (movs k) ++ movI.vals = VN (movs (k + 1)) := by
  unfold movs
  rw [List.replicate_succ', VN_append]
  simp [VN]
theorem movs_length (k : Nat) : (movs k).length = k := by simp [movs]
theorem movs_err : errF (movs 256) = 12 := by decide +kernel
theorem movs_off : OffL (movs 256) := offL_of (by decide +kernel)
theorem more_err : errF (movs 256 ++ [exitI]) = 19 := by decide +kernel
theorem more_off : OffL (movs 256 ++ [exitI]) := offL_of (by decide +kernel)
set_option maxRecDepth 100000 in
set_option maxHeartbeats 16000000 in
theorem flowKnown (w : World) :
    Calls Try.prog 6 #[] w fun e w' => e = .returned (.bool true) ∧ Below w.heap.size w w' := by
  obtain ⟨i0, hi, hz0, hz1, hz2⟩ := info_parts infoIn
  go_enter Try.func6, Try.ntmps6
  have HB := hid (Below.refl w.heap.size w)
  go_wp2_with fail
  obtain ⟨HQ1, HQ1b⟩ := wanted_new (HB.out) [-1, -1] #[Value.int .i64 (-1), Value.int .i64 (-1)] rfl
  refine (mov_any _).mono ?_
  rintro e w2 ⟨rfl, hb⟩
  replace HQ1 := hid (HQ1.out.up (hb))
  have HB3 := hid (HQ1b.out.trans ((hb).mono HQ1b.out.size))
  clear hb
  go_wp2_with fail
  refine (exit_any _).mono ?_
  rintro e w4 ⟨rfl, hb⟩
  replace HQ1 := hid (HQ1.out.up (hb))
  have HB5 := hid (HB3.out.trans ((hb).mono HB3.out.size))
  clear hb
  go_wp2_with fail
  refine (is_any _ [-1, -1] 0 _ 2 2 [movI, exitI] _ (argN_new [movI, exitI] (by simp) rfl) (HQ1.out.up (below_new _ _)) (offL_of (by decide)) (by omega) (by decide +kernel) (by decide +kernel) (by decide +kernel)).mono ?_
  rintro e w6 ⟨rfl, hb⟩
  have HB7 := hid (HB5.out.trans (((below_new _ (.cells #[Value.int .i64 (183), Value.int .i64 (0), Value.int .i64 (0), Value.int .i64 (0), Value.int .i64 (0), Value.int .i64 (149), Value.int .i64 (0), Value.int .i64 (0), Value.int .i64 (0), Value.int .i64 (0)] 35)).trans (hb.mono (by simp))).mono HB5.out.size))
  clear hb
  clear HQ1
  go_wp2_with fail
  obtain ⟨HQ8, HQ8b⟩ := wanted_new (HB7.out) [2, -1, -1] #[Value.int .i64 (2), Value.int .i64 (-1), Value.int .i64 (-1)] rfl
  refine (jump_any (1) _).mono ?_
  rintro e w9 ⟨rfl, hb⟩
  replace HQ8 := hid (HQ8.out.up (hb))
  have HB10 := hid (HQ8b.out.trans ((hb).mono HQ8b.out.size))
  clear hb
  go_wp2_with fail
  refine (mov_any _).mono ?_
  rintro e w11 ⟨rfl, hb⟩
  replace HQ8 := hid (HQ8.out.up (hb))
  have HB12 := hid (HB10.out.trans ((hb).mono HB10.out.size))
  clear hb
  go_wp2_with fail
  refine (exit_any _).mono ?_
  rintro e w13 ⟨rfl, hb⟩
  replace HQ8 := hid (HQ8.out.up (hb))
  have HB14 := hid (HB12.out.trans ((hb).mono HB12.out.size))
  clear hb
  go_wp2_with fail
  refine (is_any _ [2, -1, -1] 0 _ 3 3 [jumpI 1, movI, exitI] _ (argN_new [jumpI 1, movI, exitI] (by simp) rfl) (HQ8.out.up (below_new _ _)) (offL_of (by decide)) (by omega) (by decide +kernel) (by decide +kernel) (by decide +kernel)).mono ?_
  rintro e w15 ⟨rfl, hb⟩
  have HB16 := hid (HB14.out.trans (((below_new _ (.cells #[Value.int .i64 (21), Value.int .i64 (0), Value.int .i64 (0), Value.int .i64 (1), Value.int .i64 (0), Value.int .i64 (183), Value.int .i64 (0), Value.int .i64 (0), Value.int .i64 (0), Value.int .i64 (0), Value.int .i64 (149), Value.int .i64 (0), Value.int .i64 (0), Value.int .i64 (0), Value.int .i64 (0)] 35)).trans (hb.mono (by simp))).mono HB14.out.size))
  clear hb
  clear HQ8
  go_wp2_with fail
  obtain ⟨HQ17, HQ17b⟩ := wanted_new (HB16.out) [-1, 0] #[Value.int .i64 (-1), Value.int .i64 (0)] rfl
  refine (mov_any _).mono ?_
  rintro e w18 ⟨rfl, hb⟩
  replace HQ17 := hid (HQ17.out.up (hb))
  have HB19 := hid (HQ17b.out.trans ((hb).mono HQ17b.out.size))
  clear hb
  go_wp2_with fail
  refine (ja_any ((-2)) _).mono ?_
  rintro e w20 ⟨rfl, hb⟩
  replace HQ17 := hid (HQ17.out.up (hb))
  have HB21 := hid (HB19.out.trans ((hb).mono HB19.out.size))
  clear hb
  go_wp2_with fail
  refine (is_any _ [-1, 0] 0 _ 2 2 [movI, jaI (-2)] _ (argN_new [movI, jaI (-2)] (by simp) rfl) (HQ17.out.up (below_new _ _)) (offL_of (by decide)) (by omega) (by decide +kernel) (by decide +kernel) (by decide +kernel)).mono ?_
  rintro e w22 ⟨rfl, hb⟩
  have HB23 := hid (HB21.out.trans (((below_new _ (.cells #[Value.int .i64 (183), Value.int .i64 (0), Value.int .i64 (0), Value.int .i64 (0), Value.int .i64 (0), Value.int .i64 (5), Value.int .i64 (0), Value.int .i64 (0), Value.int .i64 (-2), Value.int .i64 (0)] 35)).trans (hb.mono (by simp))).mono HB21.out.size))
  clear hb
  clear HQ17
  go_wp2_with fail
  refine (exit_any _).mono ?_
  rintro e w24 ⟨rfl, hb⟩
  have HB25 := hid (HB23.out.trans ((hb).mono HB23.out.size))
  clear hb
  go_wp2_with fail
  refine (mov_any _).mono ?_
  rintro e w26 ⟨rfl, hb⟩
  have HB27 := hid (HB25.out.trans ((hb).mono HB25.out.size))
  clear hb
  go_wp2_with fail
  refine (is_any _ ([] : List Int) 12 _ 2 2 [exitI, movI] _ (argN_new [exitI, movI] (by simp) rfl) (argI_nil _) (offL_of (by decide)) (by omega) (by decide +kernel) (by decide +kernel) (by decide +kernel)).mono ?_
  rintro e w28 ⟨rfl, hb⟩
  have HB29 := hid (HB27.out.trans (((below_new _ (.cells #[Value.int .i64 (149), Value.int .i64 (0), Value.int .i64 (0), Value.int .i64 (0), Value.int .i64 (0), Value.int .i64 (183), Value.int .i64 (0), Value.int .i64 (0), Value.int .i64 (0), Value.int .i64 (0)] 35)).trans (hb.mono (by simp))).mono HB27.out.size))
  clear hb
  go_wp2_with fail
  refine (is_any _ ([] : List Int) 12 _ 0 0 ([] : List In) _ (argN_nil _) (argI_nil _) (offL_of (by decide)) (by omega) (by decide +kernel) (by decide +kernel) (by decide +kernel)).mono ?_
  rintro e w30 ⟨rfl, hb⟩
  have HB31 := hid (HB29.out.trans ((hb).mono HB29.out.size))
  clear hb
  go_wp2_with fail
  obtain ⟨HQ32, HQ32b⟩ := wanted_new (HB31.out) [0] #[Value.int .i64 (0)] rfl
  refine (ja_any ((-1)) _).mono ?_
  rintro e w33 ⟨rfl, hb⟩
  replace HQ32 := hid (HQ32.out.up (hb))
  have HB34 := hid (HQ32b.out.trans ((hb).mono HQ32b.out.size))
  clear hb
  go_wp2_with fail
  refine (is_any _ [0] 0 _ 1 1 [jaI (-1)] _ (argN_new [jaI (-1)] (by simp) rfl) (HQ32.out.up (below_new _ _)) (offL_of (by decide)) (by omega) (by decide +kernel) (by decide +kernel) (by decide +kernel)).mono ?_
  rintro e w35 ⟨rfl, hb⟩
  have HB36 := hid (HB34.out.trans (((below_new _ (.cells #[Value.int .i64 (5), Value.int .i64 (0), Value.int .i64 (0), Value.int .i64 (-1), Value.int .i64 (0)] 35)).trans (hb.mono (by simp))).mono HB34.out.size))
  clear hb
  clear HQ32
  go_wp2_with fail
  obtain ⟨HQ37, HQ37b⟩ := wanted_new (HB36.out) [1, -1] #[Value.int .i64 (1), Value.int .i64 (-1)] rfl
  refine (jump_any (0) _).mono ?_
  rintro e w38 ⟨rfl, hb⟩
  replace HQ37 := hid (HQ37.out.up (hb))
  have HB39 := hid (HQ37b.out.trans ((hb).mono HQ37b.out.size))
  clear hb
  go_wp2_with fail
  refine (exit_any _).mono ?_
  rintro e w40 ⟨rfl, hb⟩
  replace HQ37 := hid (HQ37.out.up (hb))
  have HB41 := hid (HB39.out.trans ((hb).mono HB39.out.size))
  clear hb
  go_wp2_with fail
  refine (is_any _ [1, -1] 0 _ 2 2 [jumpI 0, exitI] _ (argN_new [jumpI 0, exitI] (by simp) rfl) (HQ37.out.up (below_new _ _)) (offL_of (by decide)) (by omega) (by decide +kernel) (by decide +kernel) (by decide +kernel)).mono ?_
  rintro e w42 ⟨rfl, hb⟩
  have HB43 := hid (HB41.out.trans (((below_new _ (.cells #[Value.int .i64 (21), Value.int .i64 (0), Value.int .i64 (0), Value.int .i64 (0), Value.int .i64 (0), Value.int .i64 (149), Value.int .i64 (0), Value.int .i64 (0), Value.int .i64 (0), Value.int .i64 (0)] 35)).trans (hb.mono (by simp))).mono HB41.out.size))
  clear hb
  clear HQ37
  go_wp2_with fail
  refine (ja_any ((-2)) _).mono ?_
  rintro e w44 ⟨rfl, hb⟩
  have HB45 := hid (HB43.out.trans ((hb).mono HB43.out.size))
  clear hb
  go_wp2_with fail
  refine (is_any _ ([] : List Int) 11 _ 1 1 [jaI (-2)] _ (argN_new [jaI (-2)] (by simp) rfl) (argI_nil _) (offL_of (by decide)) (by omega) (by decide +kernel) (by decide +kernel) (by decide +kernel)).mono ?_
  rintro e w46 ⟨rfl, hb⟩
  have HB47 := hid (HB45.out.trans (((below_new _ (.cells #[Value.int .i64 (5), Value.int .i64 (0), Value.int .i64 (0), Value.int .i64 (-2), Value.int .i64 (0)] 35)).trans (hb.mono (by simp))).mono HB45.out.size))
  clear hb
  go_wp2_with fail
  refine (jump_any (1) _).mono ?_
  rintro e w48 ⟨rfl, hb⟩
  have HB49 := hid (HB47.out.trans ((hb).mono HB47.out.size))
  clear hb
  go_wp2_with fail
  refine (exit_any _).mono ?_
  rintro e w50 ⟨rfl, hb⟩
  have HB51 := hid (HB49.out.trans ((hb).mono HB49.out.size))
  clear hb
  go_wp2_with fail
  refine (is_any _ ([] : List Int) 11 _ 2 2 [jumpI 1, exitI] _ (argN_new [jumpI 1, exitI] (by simp) rfl) (argI_nil _) (offL_of (by decide)) (by omega) (by decide +kernel) (by decide +kernel) (by decide +kernel)).mono ?_
  rintro e w52 ⟨rfl, hb⟩
  have HB53 := hid (HB51.out.trans (((below_new _ (.cells #[Value.int .i64 (21), Value.int .i64 (0), Value.int .i64 (0), Value.int .i64 (1), Value.int .i64 (0), Value.int .i64 (149), Value.int .i64 (0), Value.int .i64 (0), Value.int .i64 (0), Value.int .i64 (0)] 35)).trans (hb.mono (by simp))).mono HB51.out.size))
  clear hb
  go_wp2_with fail
  refine (jump_any ((-1)) _).mono ?_
  rintro e w54 ⟨rfl, hb⟩
  have HB55 := hid (HB53.out.trans ((hb).mono HB53.out.size))
  clear hb
  go_wp2_with fail
  refine (is_any _ ([] : List Int) 12 _ 1 1 [jumpI (-1)] _ (argN_new [jumpI (-1)] (by simp) rfl) (argI_nil _) (offL_of (by decide)) (by omega) (by decide +kernel) (by decide +kernel) (by decide +kernel)).mono ?_
  rintro e w56 ⟨rfl, hb⟩
  have HB57 := hid (HB55.out.trans (((below_new _ (.cells #[Value.int .i64 (21), Value.int .i64 (0), Value.int .i64 (0), Value.int .i64 (-1), Value.int .i64 (0)] 35)).trans (hb.mono (by simp))).mono HB55.out.size))
  clear hb
  go_wp2_with fail
  refine (exit_any _).mono ?_
  rintro e w58 ⟨rfl, hb⟩
  have HB59 := hid (HB57.out.trans ((hb).mono HB57.out.size))
  clear hb
  go_wp2_with fail
  refine (exit_any _).mono ?_
  rintro e w60 ⟨rfl, hb⟩
  have HB61 := hid (HB59.out.trans ((hb).mono HB59.out.size))
  clear hb
  go_wp2_with fail
  refine (is_any _ ([] : List Int) 13 _ 2 2 [exitI, exitI] _ (argN_new [exitI, exitI] (by simp) rfl) (argI_nil _) (offL_of (by decide)) (by omega) (by decide +kernel) (by decide +kernel) (by decide +kernel)).mono ?_
  rintro e w62 ⟨rfl, hb⟩
  have HB63 := hid (HB61.out.trans (((below_new _ (.cells #[Value.int .i64 (149), Value.int .i64 (0), Value.int .i64 (0), Value.int .i64 (0), Value.int .i64 (0), Value.int .i64 (149), Value.int .i64 (0), Value.int .i64 (0), Value.int .i64 (0), Value.int .i64 (0)] 35)).trans (hb.mono (by simp))).mono HB61.out.size))
  clear hb
  go_wp2_with fail
  refine (wide_any _).mono ?_
  rintro e w64 ⟨rfl, hb⟩
  have HB65 := hid (HB63.out.trans ((hb).mono HB63.out.size))
  clear hb
  go_wp2_with fail
  refine (jump_any ((-2)) _).mono ?_
  rintro e w66 ⟨rfl, hb⟩
  have HB67 := hid (HB65.out.trans ((hb).mono HB65.out.size))
  clear hb
  go_wp2_with fail
  refine (exit_any _).mono ?_
  rintro e w68 ⟨rfl, hb⟩
  have HB69 := hid (HB67.out.trans ((hb).mono HB67.out.size))
  clear hb
  go_wp2_with fail
  refine (is_any _ ([] : List Int) 11 _ 3 3 [wideI, jumpI (-2), exitI] _ (argN_new [wideI, jumpI (-2), exitI] (by simp) rfl) (argI_nil _) (offL_of (by decide)) (by omega) (by decide +kernel) (by decide +kernel) (by decide +kernel)).mono ?_
  rintro e w70 ⟨rfl, hb⟩
  have HB71 := hid (HB69.out.trans (((below_new _ (.cells #[Value.int .i64 (24), Value.int .i64 (0), Value.int .i64 (0), Value.int .i64 (0), Value.int .i64 (0), Value.int .i64 (21), Value.int .i64 (0), Value.int .i64 (0), Value.int .i64 (-2), Value.int .i64 (0), Value.int .i64 (149), Value.int .i64 (0), Value.int .i64 (0), Value.int .i64 (0), Value.int .i64 (0)] 35)).trans (hb.mono (by simp))).mono HB69.out.size))
  clear hb
  go_wp2_with fail
  obtain ⟨HQ72, HQ72b⟩ := wanted_new (HB71.out) [-1, 0, -1] #[Value.int .i64 (-1), Value.int .i64 (0), Value.int .i64 (-1)] rfl
  refine (wide_any _).mono ?_
  rintro e w73 ⟨rfl, hb⟩
  replace HQ72 := hid (HQ72.out.up (hb))
  have HB74 := hid (HQ72b.out.trans ((hb).mono HQ72b.out.size))
  clear hb
  go_wp2_with fail
  refine (jump_any ((-3)) _).mono ?_
  rintro e w75 ⟨rfl, hb⟩
  replace HQ72 := hid (HQ72.out.up (hb))
  have HB76 := hid (HB74.out.trans ((hb).mono HB74.out.size))
  clear hb
  go_wp2_with fail
  refine (exit_any _).mono ?_
  rintro e w77 ⟨rfl, hb⟩
  replace HQ72 := hid (HQ72.out.up (hb))
  have HB78 := hid (HB76.out.trans ((hb).mono HB76.out.size))
  clear hb
  go_wp2_with fail
  refine (is_any _ [-1, 0, -1] 0 _ 3 3 [wideI, jumpI (-3), exitI] _ (argN_new [wideI, jumpI (-3), exitI] (by simp) rfl) (HQ72.out.up (below_new _ _)) (offL_of (by decide)) (by omega) (by decide +kernel) (by decide +kernel) (by decide +kernel)).mono ?_
  rintro e w79 ⟨rfl, hb⟩
  have HB80 := hid (HB78.out.trans (((below_new _ (.cells #[Value.int .i64 (24), Value.int .i64 (0), Value.int .i64 (0), Value.int .i64 (0), Value.int .i64 (0), Value.int .i64 (21), Value.int .i64 (0), Value.int .i64 (0), Value.int .i64 (-3), Value.int .i64 (0), Value.int .i64 (149), Value.int .i64 (0), Value.int .i64 (0), Value.int .i64 (0), Value.int .i64 (0)] 35)).trans (hb.mono (by simp))).mono HB78.out.size))
  clear hb
  clear HQ72
  go_wp2_with fail
  refine (jump_any (5) _).mono ?_
  rintro e w81 ⟨rfl, hb⟩
  have HB82 := hid (HB80.out.trans ((hb).mono HB80.out.size))
  clear hb
  go_wp2_with fail
  refine (mov_any _).mono ?_
  rintro e w83 ⟨rfl, hb⟩
  have HB84 := hid (HB82.out.trans ((hb).mono HB82.out.size))
  clear hb
  go_wp2_with fail
  refine (is_any _ ([] : List Int) 11 _ 2 2 [jumpI 5, movI] _ (argN_new [jumpI 5, movI] (by simp) rfl) (argI_nil _) (offL_of (by decide)) (by omega) (by decide +kernel) (by decide +kernel) (by decide +kernel)).mono ?_
  rintro e w85 ⟨rfl, hb⟩
  have HB86 := hid (HB84.out.trans (((below_new _ (.cells #[Value.int .i64 (21), Value.int .i64 (0), Value.int .i64 (0), Value.int .i64 (5), Value.int .i64 (0), Value.int .i64 (183), Value.int .i64 (0), Value.int .i64 (0), Value.int .i64 (0), Value.int .i64 (0)] 35)).trans (hb.mono (by simp))).mono HB84.out.size))
  clear hb
  go_wp2_with fail
  refine (jump_any (0) _).mono ?_
  rintro e w87 ⟨rfl, hb⟩
  have HB88 := hid (HB86.out.trans ((hb).mono HB86.out.size))
  clear hb
  go_wp2_with fail
  refine (exit_any _).mono ?_
  rintro e w89 ⟨rfl, hb⟩
  have HB90 := hid (HB88.out.trans ((hb).mono HB88.out.size))
  clear hb
  go_wp2_with fail
  refine (nextK 2 [jumpI 0, exitI] [1, -1] [1] #[Value.int .i64 (21), Value.int .i64 (0), Value.int .i64 (0), Value.int .i64 (0), Value.int .i64 (0), Value.int .i64 (149), Value.int .i64 (0), Value.int .i64 (0), Value.int .i64 (0), Value.int .i64 (0)] #[Value.int .i64 (1), Value.int .i64 (-1)] rfl rfl rfl rfl (by decide) (by decide) (by decide)).mono ?_
  rintro e w91 ⟨ONEv, rfl, hq, hb⟩
  have HB92 := hid (HB90.out.trans ((((below_new _ (.cells #[Value.int .i64 (21), Value.int .i64 (0), Value.int .i64 (0), Value.int .i64 (0), Value.int .i64 (0), Value.int .i64 (149), Value.int .i64 (0), Value.int .i64 (0), Value.int .i64 (0), Value.int .i64 (0)] 35)).alloc (by simp) (.cells #[Value.int .i64 (1), Value.int .i64 (-1)] 3)).trans (hb.mono (by simp; omega))).mono HB90.out.size))
  have ONE := hid hq
  clear hb hq
  go_wp2_with fail
  refine (jump_any (1) _).mono ?_
  rintro e w93 ⟨rfl, hb⟩
  replace ONE := hid (ONE.out.up (hb))
  have HB94 := hid (HB92.out.trans ((hb).mono HB92.out.size))
  clear hb
  go_wp2_with fail
  refine (mov_any _).mono ?_
  rintro e w95 ⟨rfl, hb⟩
  replace ONE := hid (ONE.out.up (hb))
  have HB96 := hid (HB94.out.trans ((hb).mono HB94.out.size))
  clear hb
  go_wp2_with fail
  refine (exit_any _).mono ?_
  rintro e w97 ⟨rfl, hb⟩
  replace ONE := hid (ONE.out.up (hb))
  have HB98 := hid (HB96.out.trans ((hb).mono HB96.out.size))
  clear hb
  go_wp2_with fail
  refine (nextK 3 [jumpI 1, movI, exitI] [2, -1, -1] [1, 2] #[Value.int .i64 (21), Value.int .i64 (0), Value.int .i64 (0), Value.int .i64 (1), Value.int .i64 (0), Value.int .i64 (183), Value.int .i64 (0), Value.int .i64 (0), Value.int .i64 (0), Value.int .i64 (0), Value.int .i64 (149), Value.int .i64 (0), Value.int .i64 (0), Value.int .i64 (0), Value.int .i64 (0)] #[Value.int .i64 (2), Value.int .i64 (-1), Value.int .i64 (-1)] rfl rfl rfl rfl (by decide) (by decide) (by decide)).mono ?_
  rintro e w99 ⟨TWOv, rfl, hq, hb⟩
  replace ONE := hid (ONE.out.up (((below_new _ (.cells #[Value.int .i64 (21), Value.int .i64 (0), Value.int .i64 (0), Value.int .i64 (1), Value.int .i64 (0), Value.int .i64 (183), Value.int .i64 (0), Value.int .i64 (0), Value.int .i64 (0), Value.int .i64 (0), Value.int .i64 (149), Value.int .i64 (0), Value.int .i64 (0), Value.int .i64 (0), Value.int .i64 (0)] 35)).alloc (by simp) (.cells #[Value.int .i64 (2), Value.int .i64 (-1), Value.int .i64 (-1)] 3)).trans (hb.mono (by simp; omega))))
  have HB100 := hid (HB98.out.trans ((((below_new _ (.cells #[Value.int .i64 (21), Value.int .i64 (0), Value.int .i64 (0), Value.int .i64 (1), Value.int .i64 (0), Value.int .i64 (183), Value.int .i64 (0), Value.int .i64 (0), Value.int .i64 (0), Value.int .i64 (0), Value.int .i64 (149), Value.int .i64 (0), Value.int .i64 (0), Value.int .i64 (0), Value.int .i64 (0)] 35)).alloc (by simp) (.cells #[Value.int .i64 (2), Value.int .i64 (-1), Value.int .i64 (-1)] 3)).trans (hb.mono (by simp; omega))).mono HB98.out.size))
  have TWO := hid hq
  clear hb hq
  go_wp2_with fail
  obtain ⟨V, hV⟩ : ∃ V, w99.alloc (.cells #[.int .i64 133, .int .i64 0, .int .i64 0, .int .i64 0, .int .i64 1] 35) = V := ⟨_, rfl⟩
  have HY := hid (show ∀ j u, (⟨133, 0, 0, 0, 1⟩ : In).vals[j]? = some u → V.cell? ⟨w99.heap.size, j, none⟩ = some u from hV ▸ new_vals ⟨133, 0, 0, 0, 1⟩ rfl)
  replace ONE := hid (show ArgI V ONEv [1] from hV ▸ ONE.out.up (below_new _ _))
  replace TWO := hid (show ArgI V TWOv [1, 2] from hV ▸ TWO.out.up (below_new _ _))
  have HBV := hid (show Below w.heap.size w V from hV ▸ HB100.out.alloc HB100.out.size _)
  have hcV : w99.heap.size < V.heap.size := by rw [← hV]; simp
  rw [hV]
  clear hV
  obtain ⟨c, hc⟩ : ∃ c, w99.heap.size = c := ⟨_, rfl⟩
  rw [hc] at HY hcV ⊢
  clear hc
  go_loopw [6, 7] (fun v i wr => ∃ k : Nat, k ≤ 256 ∧ i = .int .i64 k ∧ wr.ownsRow V.heap.size 35 5 v k (VN (movs k)) ∧ Below V.heap.size V wr) (fun _ i _ => 256 - (intOf i).toNat)
  case atStart => exact ⟨0, Nat.zero_le _, rfl, World.ownsRow_nil _ _ _ _, Below.refl _ _⟩
  case round =>
    obtain ⟨k, hk, rfl, hown, hbel⟩ := hrel
    by_cases hlt : k < 256
    · have HO := hid hown
      have HBL := hid hbel
      have HSN := hid (movs_snoc k)
      clear hown hbel
      go_wp2_with fail
      refine (mov_any _).mono ?_
      rintro e w2 ⟨rfl, hb2⟩
      have HO2 := hid (HO.out.kept (grown_of3 (r := none) hb2) (Classical.em _))
      have HB2 := hid (HBL.out.trans (hb2.mono HBL.out.size))
      clear hb2
      have hsz2 := HB2.out.size
      go_wp2_with (at_builtin; refine wpList_append_own _ rfl _ _ 22 rfl V.heap.size 35 i0 (.agg #[.int .i64 0, .int .i64 0, .int .i64 0, .int .i64 0, .int .i64 0]) 5 40 Try.underlying22 hi hz0 hz1 hz2 rfl (by decide) _ _ _ rfl (HO2.out.alloc _) ⟨w2.heap.size, 0, none⟩ 1 1 [.int .i64 183, .int .i64 0, .int .i64 0, .int .i64 0, .int .i64 0] rfl rfl ?c1 ?c2 ?c3 ?c4 ?c5 ?_)
      case c1 => exact five_new _ _ _ _ _ _ _
      case c2 => exact five_one _ _ _ _ _
      case c3 => unfold maxLen; omega
      case c4 => omega
      case c5 => simp; omega
      intro v' w3 hown' hgrow _
      have HO3 := hid (show w3.ownsRow V.heap.size 35 5 v' (k + 1) (VN (movs (k + 1))) from HSN.out ▸ hown')
      have HB3 := hid ((HB2.out.alloc hsz2 (.cells #[.int .i64 183, .int .i64 0, .int .i64 0, .int .i64 0, .int .i64 0] 35)).grown hgrow (by simp; omega) (fun q hq => ((HO2.out.alloc (.cells #[.int .i64 183, .int .i64 0, .int .i64 0, .int .i64 0, .int .i64 0] 35)).lt q hq).1))
      clear hgrow hown' hsz2
      go_wp2_with fail
      go_roundw
      case rel => exact ⟨k + 1, by omega, by go_num, HO3.out, HB3.out⟩
      case measure => simp [intOf]; omega
    · have hkn : k = 256 := by omega
      subst hkn
      obtain ⟨g, cp, rfl⟩ := own_shapeG hown (by omega)
      have HO := hid hown
      have HBL := hid hbel
      clear hown hbel
      go_wp2_with fail
      have h1 := sameI_any ONEv _ [1] [1] _ (by decide) (ONE.out.up (HBL.out.alloc HBL.out.size _)) (argI_new (w := wr) (cs := #[.int .i64 1]) (T := 3) [1] rfl rfl rfl)
      rw [show decide (([1] : List Int) = [1]) = true from by decide] at h1
      refine h1.mono ?_
      rintro e w1 ⟨rfl, m1, hw1⟩
      have hb1 : Below wr.heap.size wr w1 := by rw [hw1]; exact ListB.below_drewN (below_new _ _) m1
      have HB1 := hid (HBL.out.trans (hb1.mono HBL.out.size))
      have HO1 := hid (HO.out.kept (grown_of3 (r := none) hb1) (Classical.em _))
      clear h1 hw1 hb1
      go_wp2_with fail
      have h2 := sameI_any TWOv _ [1, 2] [1, 2] _ (by decide) (TWO.out.up (HB1.out.alloc HB1.out.size _)) (argI_new (w := w1) (cs := #[.int .i64 1, .int .i64 2]) (T := 3) [1, 2] rfl rfl rfl)
      rw [show decide (([1, 2] : List Int) = [1, 2]) = true from by decide] at h2
      refine h2.mono ?_
      rintro e w2 ⟨rfl, m2, hw2⟩
      have hb2 : Below w1.heap.size w1 w2 := by rw [hw2]; exact ListB.below_drewN (below_new _ _) m2
      have HB2 := hid (HB1.out.trans (hb2.mono HB1.out.size))
      have HO2 := hid (HO1.out.kept (grown_of3 (r := none) hb2) (Classical.em _))
      clear h2 hw2 hb2
      have y0 := (HB2.out.cell (p := ⟨c, 0, none⟩) hcV).trans (HY.out 0 _ rfl)
      have y1 := (HB2.out.cell (p := ⟨c, 1, none⟩) hcV).trans (HY.out 1 _ rfl)
      have y2 := (HB2.out.cell (p := ⟨c, 2, none⟩) hcV).trans (HY.out 2 _ rfl)
      have y3 := (HB2.out.cell (p := ⟨c, 3, none⟩) hcV).trans (HY.out 3 _ rfl)
      have y4 := (HB2.out.cell (p := ⟨c, 4, none⟩) hcV).trans (HY.out 4 _ rfl)
      go_wp2_with fail
      refine (jumpsK 133 0 0 0 1 false rfl _).mono ?_
      rintro e w3 ⟨rfl, hb3⟩
      have HB3 := hid (HB2.out.trans (hb3.mono HB2.out.size))
      have HO3 := hid (HO2.out.kept (grown_of3 (r := none) hb3) (Classical.em _))
      clear hb3 y0 y1 y2 y3 y4
      go_wp2_with fail
      refine (exit_any _).mono ?_
      rintro e w4 ⟨rfl, hb4⟩
      have HB4 := hid (HB3.out.trans (hb4.mono HB3.out.size))
      have HO4 := hid (HO3.out.kept (grown_of3 (r := none) hb4) (Classical.em _))
      clear hb4
      go_wp2_with fail
      refine (jumpsK 149 0 0 0 0 false rfl _).mono ?_
      rintro e w5 ⟨rfl, hb5⟩
      have HB5 := hid (HB4.out.trans (hb5.mono HB4.out.size))
      have HO5 := hid (HO4.out.kept (grown_of3 (r := none) hb5) (Classical.em _))
      clear hb5
      go_wp2_with fail
      refine (jumpsK 222 0 0 0 0 true rfl _).mono ?_
      rintro e w6 ⟨rfl, hb6⟩
      have HB6 := hid (HB5.out.trans (hb6.mono HB5.out.size))
      have HO6 := hid (HO5.out.kept (grown_of3 (r := none) hb6) (Classical.em _))
      clear hb6
      go_wp2_with fail
      refine (exit_any _).mono ?_
      rintro e w7 ⟨rfl, hb7⟩
      have HB7 := hid (HB6.out.trans (hb7.mono HB6.out.size))
      have HO7 := hid (HO6.out.kept (grown_of3 (r := none) hb7) (Classical.em _))
      clear hb7
      have hs7 := HB7.out.size
      go_wp2_with (at_builtin; refine wpList_appN1 _ rfl _ _ rfl V.heap.size _ _ (movs 256) rfl (HO7.out.alloc _) _ _ exitI rfl (new_vals exitI (by simp)) (by omega) (by simp; omega) ?_)
      intro v' w8 hown8 hgr8 hmv8
      have HA8 := hid (still_argN (HO7.out.alloc _) hown8 hmv8)
      have HB8 := hid ((HB7.out.alloc hs7 (.cells #[.int .i64 149, .int .i64 0, .int .i64 0, .int .i64 0, .int .i64 0] 35)).grown hgr8 (by simp; omega) (fun q hq => ((HO7.out.alloc (.cells #[.int .i64 149, .int .i64 0, .int .i64 0, .int .i64 0, .int .i64 0] 35)).lt q hq).1))
      obtain ⟨a8, c8, rfl, ha8⟩ := own_argN hown8
      have HM8 := hid ha8
      clear hown8 hgr8 hmv8 ha8 hs7
      go_wp2_with fail
      refine (is_any _ [] 19 a8 257 c8 (movs 256 ++ [exitI]) _ HM8.out (argI_nil _) more_off (by omega) more_err (outF_err (by rw [more_err]; omega)) (by rw [outF_err (by rw [more_err]; omega)]; simp)).mono ?_
      rintro e w9 ⟨rfl, hb9⟩
      have HB9 := hid (HB8.out.trans (hb9.mono HB8.out.size))
      have HA9 := hid (HA8.out.up hb9)
      clear hb9
      go_wp2_with fail
      refine (is_any _ [] 12 _ 256 cp (movs 256) _ HA9.out (argI_nil _) movs_off (by omega) movs_err (outF_err (by rw [movs_err]; omega)) (by rw [outF_err (by rw [movs_err]; omega)]; simp)).mono ?_
      rintro e w10 ⟨rfl, hb10⟩
      have HB10 := hid (HB9.out.trans (hb10.mono HB9.out.size))
      clear hb10
      go_wp2_with fail
      refine (knownF_any _).mono ?_
      rintro e w11 ⟨rfl, hb11⟩
      have HB11 := hid (HBV.out.trans ((HB10.out.trans (hb11.mono HB10.out.size)).mono HBV.out.size))
      clear hb11
      go_wp2_with fail
      go_ret
      exact ⟨rfl, HB11.out⟩
end Go.Proofs.Ytpknnmnknaaccaa.Flow
