/-
  Proved: whatever the arguments, the Go function FlowPads returns true, and each argument reads afterwards as it read before (the given statement FlowPadsSaid).
  Conditions: none.
-/
import Derived.Test.YtpknnmnknaaccaaFpB
import Derived.Test.YtpknnmnknaaccaaFlS
import Derived.OpenShut
import Derived.Deep.Slices
import Derived.ProofKit
import Derived.Test.YtpknnmnknaaccaaFlW
import Derived.Test.YtpknnmnknaaccaaRows
import Derived.WalkKit
import Derived.ShutString
import Derived.ChangeOld
import Derived.Below
import Derived.SizedLaws
import Derived.Test.YtpknnmnknaaccaaJoin
namespace Go.Proofs.Ytpknnmnknaaccaa.Flow
open Go.RowKit Go.Proofs.Ytpknnmnknaaccaa.Num Go.Proofs.Ytpknnmnknaaccaa.ListB Go.Proofs.Ytpknnmnknaaccaa.Insn Go.ChangeShapes Go.WideShapes
theorem nrow_cells {w : World} {b off : Nat} {m : List In} (h : NRow w b off m) : ∀ j u, (VN m)[j]? = some u → w.cell? ((⟨b, off, none⟩ : Addr).add j) = some u := fun j u hu => by
  have hj := (List.getElem?_eq_some_iff.1 hu).1
  rw [VN_length] at hj
  obtain ⟨x, hx⟩ : ∃ x, m[j / 5]? = some x := ⟨_, List.getElem?_eq_getElem (by omega)⟩
  obtain ⟨h0, h1, h2, h3, h4⟩ := h (j / 5) x hx
  have e : (⟨b, off, none⟩ : Addr).add j = ⟨b, off + j, none⟩ := by unfold Addr.add; split <;> simp_all
  have key : ∀ r v, j % 5 = r → x.vals[r]? = some v → u = v := fun r v hr hv => by
    have t := VN_get m (j / 5) x r v hx hv
    rw [show j / 5 * 5 + r = j by omega, hu] at t
    exact Option.some.inj t
  rw [e]
  rcases (show j % 5 = 0 ∨ j % 5 = 1 ∨ j % 5 = 2 ∨ j % 5 = 3 ∨ j % 5 = 4 by omega) with hr | hr | hr | hr | hr
  · rw [key 0 _ hr rfl, show off + j = off + j / 5 * 5 by omega]; exact h0
  · rw [key 1 _ hr rfl, show off + j = off + j / 5 * 5 + 1 by omega]; exact h1
  · rw [key 2 _ hr rfl, show off + j = off + j / 5 * 5 + 2 by omega]; exact h2
  · rw [key 3 _ hr rfl, show off + j = off + j / 5 * 5 + 3 by omega]; exact h3
  · rw [key 4 _ hr rfl, show off + j = off + j / 5 * 5 + 4 by omega]; exact h4
theorem VN_cells (l : List In) : ∀ u ∈ VN l, u.oneCell' = true := by
  intro u hu
  unfold VN at hu
  obtain ⟨x, _, hx⟩ := List.mem_flatMap.1 hu
  unfold In.vals at hx
  simp at hx
  rcases hx with rfl | rfl | rfl | rfl | rfl <;> rfl
/-- append(m, l...), l a slice that is there to be read and not empty. -/
theorem wpList_appL {ops : Array Oper} {rest : List Oper} {o : Oper} {ac : Act} {Q : Exit → Act → World → Prop} (w : World) (hw : Region.wanted o (yielded ops ac.tmps) = true) (s x : Operand)
    (ho : o.op = .call { callee := .builtin .append, args := #[s, x], argTypes := #[22, 22] })
    (base : Nat) (v : Value) (n : Nat) (T : List In) (hs : ac.eval s = v) (hown : w.ownsRow base 35 5 v n (VN T)) (b off m c : Nat) (l : List In) (hx : ac.eval x = .slice (some ⟨b, off, none⟩) m c)
    (hl : l.length = m) (hr : NRow w b off l) (h0 : 0 < m) (hn : n + m ≤ 1000) (hbase : base ≤ w.heap.size)
    (h : ∀ v' w', w'.ownsRow base 35 5 v' (n + m) (VN (T ++ l)) → w.grownBy w' v.ownBlock → Moved w w' v v' → wpList Try.prog ops Q rest (ac.put o.dst v') w') : wpList Try.prog ops Q (o :: rest) ac w := by
  obtain ⟨i0, hi, hz0, hz1, hz2⟩ := info_parts infoIn
  refine wpList_app w hw s x 22 ho base 35 i0 (.agg #[.int .i64 0, .int .i64 0, .int .i64 0, .int .i64 0, .int .i64 0]) Try.underlying22 hi hz0 (by rw [hz1]; rfl) (by rw [hz1]; omega) v n (VN T) hs (by rw [hz1]; exact hown) ⟨b, off, none⟩ m c (VN l) hx (by rw [hz1, VN_length, hl]) (nrow_cells hr) (VN_cells l) h0 (by unfold maxLen; omega) (by rw [hz2]; omega) hbase ?_
  intro v' w' h1 h2 h3
  rw [hz1, ← VN_append] at h1
  exact h v' w' h1 h2 h3
def padI (b : Bool) : In := if b then wideI else movI
def pads (bs : List Bool) : List In := bs.map padI
theorem pads_length (bs : List Bool) : (pads bs).length = bs.length := by simp [pads]
theorem pads_pad (bs : List Bool) : Pad (pads bs) := fun x hx => by
  obtain ⟨b, _, rfl⟩ := List.mem_map.1 hx
  cases b
  · exact Or.inr rfl
  · exact Or.inl rfl
theorem pads_snoc (bs : List Bool) (k : Nat) (h : k < bs.length) : VN (pads (bs.take k)) ++ (padI (bs.getD k false)).vals = VN (pads (bs.take (k + 1))) := by
  unfold pads
  rw [List.take_succ_eq_append_getElem h, List.map_append, VN_append]
  simp [VN, h]
theorem pads_off {bs : List Bool} {l : List In} (h : OffL l) : OffL (pads bs ++ l) := fun k x hx => by
  rcases List.mem_append.1 (List.mem_of_getElem? hx) with h1 | h1
  · obtain ⟨b, _, rfl⟩ := List.mem_map.1 h1
    cases b <;> simp [padI, wideI, movI]
  · obtain ⟨i, hi, e⟩ := List.mem_iff_getElem.1 h1
    exact h i x (by rw [List.getElem?_eq_getElem hi, e])
/-- Numbers of which the first k are p more. -/
def addK (N : List Int) (p : Int) (k : Nat) : List Int := (N.take k).map (· + p) ++ N.drop k
theorem addK_zero (N : List Int) (p : Int) : addK N p 0 = N := by simp [addK]
theorem addK_length (N : List Int) (p : Int) (k : Nat) : (addK N p k).length = N.length := by simp [addK]; omega
theorem addK_done (N : List Int) (p : Int) : addK N p N.length = N.map (· + p) := by simp [addK]
theorem addK_get (N : List Int) (p : Int) (k : Nat) (h : k < N.length) : (addK N p k).getD k 0 = N.getD k 0 := by
  unfold addK
  rw [List.getD_eq_getElem?_getD, List.getElem?_append_right (by simp; omega), List.getD_eq_getElem?_getD]
  simp [Nat.min_eq_left (Nat.le_of_lt h)]
theorem addK_set (N : List Int) (p : Int) (k : Nat) (h : k < N.length) : (addK N p k).set k (N.getD k 0 + p) = addK N p (k + 1) := by
  unfold addK
  have hk : ((N.take k).map (· + p)).length = k := by simp; omega
  rw [List.set_append, if_neg (by omega), hk, Nat.sub_self, take_one N k h, List.map_append, List.drop_eq_getElem_cons h, List.set_cons_zero, List.append_assoc]
  rfl
/-- Bools that are there to be read. -/
def BoolsAt (w : World) (a : Option Addr) (len : Nat) (bs : List Bool) : Prop :=
  bs.length = len ∧ (0 < len → ∃ b off, a = some ⟨b, off, none⟩ ∧ b < w.heap.size ∧ ∀ i, i < len → w.cell? ⟨b, off + i, none⟩ = some (.bool (bs.getD i false)))
theorem open_bools {H : Type} {enc : TypeId × Value → H} {w : World} {base : Nat} {a : Option Addr} {len cap fuel : Nat} {y : DataW H × List MemPlace} (h : DataW.trod enc Try.prog w base (fun _ => true) true fuel 38 [.slice a len cap] = some y) : ∃ bs, BoolsAt w a len bs ∧ len ≤ cap ∧ cap ≤ 9223372036854775807 := by
  rcases Go.Deep.open_slice Try.underlying38 h with ⟨hcs, _⟩ | ⟨ad, len', cap', m, n, D, Pl, hcs, _, hl, hm, hmm, _, hi⟩
  · simp at hcs
    obtain ⟨rfl, rfl, rfl⟩ := hcs
    exact ⟨[], ⟨rfl, fun h0 => absurd h0 (by omega)⟩, by omega, by omega⟩
  · simp at hcs
    obtain ⟨rfl, rfl, rfl⟩ := hcs
    have hmlen : len ≤ m := by rw [hmm]; split <;> omega
    rw [show Try.prog.cellsOf 4 = 1 by kernel_rfl] at hi
    have each : ∀ i, i < len → ∃ b : Bool, w.cell? (ad.add i) = some (.bool b) := fun i hil => by
      obtain ⟨cs', hc, ht⟩ := hi i (by omega)
      obtain ⟨b, rfl, _⟩ := DataW.trod_bool Try.underlying4 ht
      obtain ⟨_, hcl, hat⟩ := World.cells?_some hc
      refine ⟨b, ?_⟩
      have := hat 0 (by rw [← hcl]; simp)
      have e0 : ∀ z : Addr, z.add 0 = z := fun z => by obtain ⟨b, o, sp⟩ := z; cases sp <;> simp [Addr.add]
      rw [e0] at this
      simpa using this
    have all : ∀ k, k ≤ len → ∃ bs : List Bool, bs.length = k ∧ ∀ i, i < k → w.cell? (ad.add i) = some (.bool (bs.getD i false)) := by
      intro k
      induction k with
      | zero => intro _; exact ⟨[], rfl, fun i hi => by omega⟩
      | succ k ih =>
        intro hk
        obtain ⟨bs, hb, hc⟩ := ih (by omega)
        obtain ⟨b, hbk⟩ := each k (by omega)
        refine ⟨bs ++ [b], by simp [hb], fun i hi => ?_⟩
        by_cases e : i < k
        · rw [hc i e, List.getD_eq_getElem?_getD, List.getD_eq_getElem?_getD, List.getElem?_append_left (by omega)]
        · obtain rfl : i = k := by omega
          rw [hbk, List.getD_eq_getElem?_getD, List.getElem?_append_right (by omega), hb, Nat.sub_self]; rfl
    obtain ⟨bs, hb, hc⟩ := all len (Nat.le_refl _)
    refine ⟨bs, ⟨hb, fun h0 => ?_⟩, hl, by unfold maxLen at hm; omega⟩
    obtain ⟨b, off, spot⟩ := ad
    have c00 := hc 0 h0
    have hspot : spot = none := by simpa [Addr.add] using World.cell?_spot c00
    subst hspot
    have addp : ∀ i, (⟨b, off, none⟩ : Addr).add i = ⟨b, off + i, none⟩ := fun i => by unfold Addr.add; split <;> simp_all
    refine ⟨b, off, rfl, ?_, fun i hi => ?_⟩
    · rw [addp] at c00; exact World.block_lt_of_cell? w _ c00
    · rw [← addp]; exact hc i hi
end Go.Proofs.Ytpknnmnknaaccaa.Flow

namespace Go.Proofs.Ytpknnmnknaaccaa.Flow
open Go.RowKit Go.Proofs.Ytpknnmnknaaccaa.Num Go.Proofs.Ytpknnmnknaaccaa.ListB Go.Proofs.Ytpknnmnknaaccaa.Insn
theorem laterP {w1 w2 : World} {b1 b2 : Nat} {T1 T2 : TypeId} {s1 s2 n1 n2 : Nat} {v1 v2 : Value} {x1 x2 : List Value} (h1 : w1.ownsRow b1 T1 s1 v1 n1 x1) (h2 : w2.ownsRow b2 T2 s2 v2 n2 x2) (hb : w1.heap.size ≤ b2) : v2.ownBlock = none ∨ v2.ownBlock ≠ v1.ownBlock := by
  cases e : v2.ownBlock with
  | none => exact Or.inl rfl
  | some k =>
    right
    intro e2
    have := (h2.lt k e).1
    have := (h1.lt k e2.symm).2
    omega
set_option maxRecDepth 100000 in
theorem flowPads_known (a : Option Addr) (n cap : Nat) (l : List In) (ba : Option Addr) (bn bc : Nat) (w : World) (h : ArgN w a n l) (hwf : WfL l) (hm : n ≤ 9223372036854775807) (hc : bigB l = true ∨ (bigB l = false ∧ (n = 0 ∨ (0 < n ∧ 200 < n) ∨ (0 < n ∧ ¬ 200 < n ∧ 40 < bn)))) :
    Calls Try.prog 7 #[.slice a n cap, .slice ba bn bc] w fun e w' => e = .returned (.bool true) ∧ Below w.heap.size w w' := by
  have HB := hid (big_any a n cap l w h hwf hm)
  clear h hwf
  rcases hc with hb | ⟨hb, rfl | ⟨h1, h2⟩ | ⟨h1, h2, h3⟩⟩
  all_goals
    rw [hb] at HB
    clear hb
    go_enter Try.func7, Try.ntmps7
    go_wp2_with fail
    refine HB.out.mono ?_
    rintro e w1 ⟨rfl, hb1⟩
    have HB1 := hid hb1
    clear hb1
    go_wp2_with fail
    refine (knownF_any _).mono ?_
    rintro e w2 ⟨rfl, hb2⟩
    have HB2 := hid (HB1.out.trans (hb2.mono HB1.out.size))
    clear hb2
    go_wp2_with fail
    go_ret
    exact ⟨rfl, HB2.out⟩
set_option maxRecDepth 100000 in
set_option maxHeartbeats 8000000 in
theorem flowPads_few (a : Option Addr) (n cap : Nat) (l : List In) (ba : Option Addr) (bn bc : Nat) (bs : List Bool) (w : World) (h : ArgN w a n l) (hwf : WfL l) (hb : bigB l = false) (hn0 : 0 < n) (hn1 : ¬ 200 < n) (hb1 : ¬ 40 < bn) (hB : BoolsAt w ba bn bs) :
    Calls Try.prog 7 #[.slice a n cap, .slice ba bn bc] w fun e w' => e = .returned (.bool true) ∧ Below w.heap.size w w' := by
  obtain ⟨hle, hok⟩ := big_no hb
  obtain ⟨i0, hi, hz0, hz1, hz2⟩ := info_parts infoIn
  have hln := h.1
  have HA := hid h
  have HN := hid hln
  have HBS := hid hB
  have HB := hid (big_any a n cap l w h hwf (by omega))
  rw [hb] at HB
  have HO := hid (ok_off hok)
  have HPN := hid (show (pads bs).length = bn by rw [pads_length, hB.1])
  have HSN := hid (fun k (hk : k < bn) => pads_snoc bs k (by rw [hB.1]; exact hk))
  have HDN := hid (show bs.take bn = bs from List.take_of_length_le (by rw [hB.1]; omega))
  have HER := hid (err_app (pads_pad bs) (l := l) (by omega) (by rw [pads_length, hB.1]; omega))
  clear h hwf hb hok hln hB hle
  go_enter Try.func7, Try.ntmps7
  go_wp2_with fail
  refine HB.out.mono ?_
  rintro e w1 ⟨rfl, hbb⟩
  have HB1 := hid hbb
  have hs1 := hbb.size
  clear hbb
  go_wp2_with fail
  go_loopw [5, 6] (fun v z wr => ∃ k : Nat, k ≤ bn ∧ z = .int .i64 k ∧ wr.ownsRow w1.heap.size 35 5 v k (VN (pads (bs.take k))) ∧ Below w1.heap.size w1 wr) (fun _ z _ => bn - (intOf z).toNat)
  case atStart => exact ⟨0, Nat.zero_le _, rfl, World.ownsRow_nil _ _ _ _, Below.refl _ _⟩
  case round =>
    obtain ⟨k, hk, rfl, hown, hbel⟩ := hrel
    by_cases hlt : k < bn
    · obtain ⟨bb, bo, rfl, hbl, hbc⟩ := HBS.out.2 (by omega)
      have cb := ((HB1.out.trans (hbel.mono hs1)).cell (show bb < _ from hbl)).trans (hbc k hlt)
      have HS := hid (HSN.out k hlt)
      have HOW := hid hown
      have HBL := hid hbel
      generalize bs.getD k false = q at cb HS
      clear hown hbel hbl hbc
      cases q
      · go_wp2_with fail
        refine (mov_any _).mono ?_
        rintro e w2 ⟨rfl, hb2⟩
        have HO2 := hid (HOW.out.kept (grown_of3 (r := none) hb2) (Classical.em _))
        have HB2 := hid (HBL.out.trans (hb2.mono HBL.out.size))
        have hsz2 := HB2.out.size
        clear hb2 cb
        go_wp2_with (at_builtin; refine wpList_append_own _ rfl _ _ 22 rfl w1.heap.size 35 i0 (.agg #[.int .i64 0, .int .i64 0, .int .i64 0, .int .i64 0, .int .i64 0]) 5 40 Try.underlying22 hi hz0 hz1 hz2 rfl (by decide) _ _ _ rfl (HO2.out.alloc _) ⟨w2.heap.size, 0, none⟩ 1 1 [.int .i64 183, .int .i64 0, .int .i64 0, .int .i64 0, .int .i64 0] rfl rfl ?c1 ?c2 ?c3 ?c4 ?c5 ?_)
        case c1 => exact five_new _ _ _ _ _ _ _
        case c2 => exact five_one _ _ _ _ _
        case c3 => unfold maxLen; omega
        case c4 => omega
        case c5 => simp; omega
        intro v' w3 hown' hgrow _
        have HO3 := hid (show w3.ownsRow w1.heap.size 35 5 v' (k + 1) (VN (pads (bs.take (k + 1)))) from HS.out ▸ hown')
        have HB3 := hid ((HB2.out.alloc hsz2 (.cells #[.int .i64 183, .int .i64 0, .int .i64 0, .int .i64 0, .int .i64 0] 35)).grown hgrow (by simp; omega) (fun x hx => ((HO2.out.alloc (.cells #[.int .i64 183, .int .i64 0, .int .i64 0, .int .i64 0, .int .i64 0] 35)).lt x hx).1))
        clear hgrow hown' hsz2
        go_wp2_with fail
        go_roundw
        case rel => exact ⟨k + 1, by omega, by go_num, HO3.out, HB3.out⟩
        case measure => simp [intOf]; omega
      · go_wp2_with fail
        refine (wide_any _).mono ?_
        rintro e w2 ⟨rfl, hb2⟩
        have HO2 := hid (HOW.out.kept (grown_of3 (r := none) hb2) (Classical.em _))
        have HB2 := hid (HBL.out.trans (hb2.mono HBL.out.size))
        have hsz2 := HB2.out.size
        clear hb2 cb
        go_wp2_with (at_builtin; refine wpList_append_own _ rfl _ _ 22 rfl w1.heap.size 35 i0 (.agg #[.int .i64 0, .int .i64 0, .int .i64 0, .int .i64 0, .int .i64 0]) 5 40 Try.underlying22 hi hz0 hz1 hz2 rfl (by decide) _ _ _ rfl (HO2.out.alloc _) ⟨w2.heap.size, 0, none⟩ 1 1 [.int .i64 24, .int .i64 0, .int .i64 0, .int .i64 0, .int .i64 0] rfl rfl ?c1 ?c2 ?c3 ?c4 ?c5 ?_)
        case c1 => exact five_new _ _ _ _ _ _ _
        case c2 => exact five_one _ _ _ _ _
        case c3 => unfold maxLen; omega
        case c4 => omega
        case c5 => simp; omega
        intro v' w3 hown' hgrow _
        have HO3 := hid (show w3.ownsRow w1.heap.size 35 5 v' (k + 1) (VN (pads (bs.take (k + 1)))) from HS.out ▸ hown')
        have HB3 := hid ((HB2.out.alloc hsz2 (.cells #[.int .i64 24, .int .i64 0, .int .i64 0, .int .i64 0, .int .i64 0] 35)).grown hgrow (by simp; omega) (fun x hx => ((HO2.out.alloc (.cells #[.int .i64 24, .int .i64 0, .int .i64 0, .int .i64 0, .int .i64 0] 35)).lt x hx).1))
        clear hgrow hown' hsz2
        go_wp2_with fail
        go_roundw
        case rel => exact ⟨k + 1, by omega, by go_num, HO3.out, HB3.out⟩
        case measure => simp [intOf]; omega
    · have hkn : k = bn := by omega
      have HOW := hid (show wr.ownsRow w1.heap.size 35 5 _ bn (VN (pads bs)) from by
        have := hown
        rw [hkn, HDN.out] at this
        exact this)
      have HBL := hid hbel
      have hge : bn ≤ k := by omega
      clear hkn hown hbel
      obtain ⟨b, off, rfl, hlb, hlr⟩ := HA.out.2 hn0
      have HW4 := hid (HB1.out.trans (HBL.out.mono hs1))
      have HR := hid (hlr.below HW4.out hlb)
      obtain ⟨a2, c2, rfl, _⟩ := own_argN HOW.out
      have hs4 := HBL.out.size
      clear hlr
      go_wp2_with (at_builtin; refine wpList_appL _ rfl _ _ rfl w1.heap.size _ bn (pads bs) rfl HOW.out b off n cap l rfl HN.out HR.out hn0 (by omega) hs4 ?_)
      intro v' w5 hown5 hgr5 _
      obtain ⟨am, cm, rfl, ham⟩ := own_argN hown5
      have HM := hid ham
      have HB5 := hid (HBL.out.grown hgr5 hs4 (fun q hq => (HOW.out.lt q hq).1))
      have HW5 := hid (HB1.out.trans (HB5.out.mono hs1))
      have hs5 := HW5.out.size
      clear hown5 hgr5 ham
      go_wp2_with fail
      refine (targets_any (some ⟨b, off, none⟩) n cap l w5 (HA.out.up HW5.out) HO.out (by omega)).mono ?_
      rintro e w6 ⟨tv, rfl, hown6, hb6⟩
      have HO6 := hid hown6
      have HB6 := hid hb6
      have HW6 := hid (HW5.out.trans (hb6.mono hs5))
      have hs6 := HW6.out.size
      clear hown6 hb6
      go_wp2_with fail
      refine (targets_any am (bn + n) cm (pads bs ++ l) w6 (HM.out.up HB6.out) (pads_off HO.out) (by omega)).mono ?_
      rintro e w7 ⟨uv, rfl, hown7, hb7⟩
      have HO7 := hid hown7
      have HT7 := hid (HO6.out.kept (grown_of3 (r := none) hb7) (Classical.em _))
      have HW7 := hid (HW6.out.trans (hb7.mono hs6))
      have HB7 := hid (HB6.out.trans (hb7.mono HB6.out.size))
      have hs7 := HW7.out.size
      clear hown7 hb7
      by_cases hef : errF (pads bs ++ l) = errF l
      · rw [hef]
        by_cases he0 : errF l = 0
        · obtain ⟨hSo, _, _⟩ := errF_ok he0
          have HWT := hid (fun i (hi : i < n) => nx_wants hSo.land i (by rw [HN.out]; exact hi))
          have HMEM := hid (fun i (hi : i < n) => fun z hz => nxI_mem hSo (i := i) (by rw [HN.out]; exact hi) (z := z) hz)
          have hTm := HT7.out
          have hUm := HO7.out
          rw [outF_ok he0, tgL_length, HN.out] at hTm
          rw [outF_ok (by rw [hef]; exact he0), tgL_length, List.length_append, HPN.out, HN.out] at hUm
          obtain ⟨M, hM⟩ : ∃ M, bn + n = M := ⟨_, rfl⟩
          rw [hM] at hUm HM ⊢
          rw [he0]
          have HTT := hid hTm
          have HUU := hid hUm
          obtain ⟨tg, tc, hv1⟩ := own_shapeG hTm hn0
          obtain ⟨ug, uc, hv2⟩ := own_shapeG hUm (by omega)
          subst hv1 hv2
          have HLM := hid (show (tgL (pads bs ++ l)).length = M by rw [tgL_length, List.length_append, HPN.out, HN.out, hM])
          have HLT := hid (show (tgL l).length = n by rw [tgL_length, HN.out])
          have HTGM := hid (fun k (hk : k < M) => tgL_get (pads bs ++ l) k (by rw [← tgL_length, HLM.out]; exact hk))
          have HTGL := hid (fun k (hk : k < n) => tgL_get l k (by rw [HN.out]; exact hk))
          have HLEFT := hid (fun k (hk : k < bn) => tg_left (pads_pad bs) l k (by rw [HPN.out]; exact hk))
          have HRIGHT := hid (fun j (hj : j < n) => show tgI (pads bs ++ l) (bn + j) = shift bn (tgI l j) from by
            have := tg_right (pads bs) l j (fun h => (HWT.out j hj h).1)
            rw [HPN.out] at this; exact this)
          have HNXR := hid (fun i (hi : i < n) => show nxI (at' (pads bs ++ l) (bn + i)).op ((bn + i : Nat) : Int) (tgI (pads bs ++ l) (bn + i)) = (nxI (at' l i).op i (tgI l i)).map (· + (bn : Int)) from by
            have := nx_right (pads bs) l i (HWT.out i hi)
            rw [HPN.out] at this; exact this)
          have HRNG := hid (fun j => tgI_range l j)
          have hne : ((M : Int) != (n : Int) + (bn : Int)) = false := bne_eq_false_iff_eq.2 (by omega)
          have hMb : M ≤ 240 := by omega
          have HMM := hid hM
          clear hef he0 hSo hTm hUm hM
          go_wp2_with fail
          go_loopw [12] (fun z wr => ∃ k : Nat, k ≤ M ∧ z = .int .i64 k ∧ wr = w7) (fun z _ => M - (intOf z).toNat)
          case atStart => exact ⟨0, Nat.zero_le _, rfl, rfl⟩
          case round =>
            obtain ⟨k, hk, rfl, hwr⟩ := hrel
            have hwr' := hwr.symm
            subst hwr'
            by_cases hlt : k < M
            · have cu := (HUU.out.cellAt k (by omega)).trans (VI_get _ k (by rw [HLM.out]; exact hlt))
              rw [HTGM.out k hlt] at cu
              have hk0 : (0 : Int) ≤ (k : Int) := by omega
              have hk1 : (k : Int) < (M : Int) := by omega
              by_cases hkb : k < bn
              · rw [HLEFT.out k hkb] at cu
                have g1 : ¬ ((bn : Int) ≤ (k : Int)) := by omega
                go_wp2_with fail
                go_roundw
                case rel => exact ⟨k + 1, by omega, by go_num, trivial⟩
                case measure => simp [intOf]; omega
              · obtain ⟨j, hj⟩ : ∃ j, k = bn + j := ⟨k - bn, by omega⟩
                have hjn : j < n := by have := HMM.out; omega
                rw [hj, HRIGHT.out j hjn, ← hj] at cu
                have ct := (HTT.out.cellAt j (by omega)).trans (VI_get _ j (by rw [HLT.out]; exact hjn))
                rw [HTGL.out j hjn] at ct
                have hr := HRNG.out j
                rw [HN.out] at hr
                generalize tgI l j = t at cu ct hr
                obtain ⟨hr0, hr1⟩ := hr
                have g1 : (bn : Int) ≤ (k : Int) := by omega
                have g2 : (k : Int) - (bn : Int) = (j : Int) := by omega
                have g3 : (0 : Int) ≤ (j : Int) := by omega
                have g4 : (j : Int) < (n : Int) := by omega
                have hkM : k + 1 ≤ M := by omega
                have hmes : M - (k + 1) < M - k := by omega
                unfold shift at cu
                clear hj hjn
                by_cases ht : t < 0
                · rw [if_pos ht] at cu
                  have g5 : ¬ ((0 : Int) ≤ t) := by omega
                  go_wp2_with fail
                  go_roundw
                  case rel => exact ⟨k + 1, hkM, by go_num, trivial⟩
                  case measure => simp [intOf]; omega
                · rw [if_neg ht] at cu
                  have g5 : (0 : Int) ≤ t := by omega
                  go_wp2_with fail
                  go_roundw
                  case rel => exact ⟨k + 1, hkM, by go_num, trivial⟩
                  case measure => simp [intOf]; omega
            · have hge : M ≤ k := by omega
              go_wp2_with fail
              clear hk hlt hge
              go_loopw [14] (fun z wr => ∃ i : Nat, i ≤ n ∧ z = .int .i64 i ∧ Below w7.heap.size w7 wr) (fun z _ => n - (intOf z).toNat)
              case atStart => exact ⟨0, Nat.zero_le _, rfl, Below.refl _ _⟩
              case round =>
                obtain ⟨i, hi, rfl, hbel⟩ := hrel
                have hsz := hbel.size
                have HBW := hid (HW7.out.trans (hbel.mono hs7))
                by_cases hlt : i < n
                · have HNX := hid (next_any (some ⟨b, off, none⟩) n cap l (.slice (some ⟨tg, 0, none⟩) n tc) (tgL l) i wr (HA.out.up HBW.out) ((own_argI HTT.out).up hbel) (by omega) hlt (by rw [HLT.out]; exact hlt) (by rw [HLT.out]; omega))
                  rw [HTGL.out i hlt] at HNX
                  have hiM : bn + i < M := by have := HMM.out; omega
                  have HNY := hid (fun w' (hb : Below w7.heap.size w7 w') => next_any am M cm (pads bs ++ l) (.slice (some ⟨ug, 0, none⟩) M uc) (tgL (pads bs ++ l)) (bn + i) w' (HM.out.up (HB7.out.trans (hb.mono HB7.out.size))) ((own_argI HUU.out).up hb) (by omega) hiM (by rw [HLM.out]; exact hiM) (by rw [HLM.out]; omega))
                  rw [HTGM.out (bn + i) hiM, HNXR.out i hlt, show ((bn + i : Nat) : Int) = (i : Int) + (bn : Int) by omega] at HNY
                  have HME := hid (HMEM.out i hlt)
                  have hnl := (nxI_len (at' l i).op i (tgI l i)).1
                  generalize nxI (at' l i).op i (tgI l i) = N at HNX HNY HME hnl
                  rw [HN.out] at HME
                  have hi0 : (0 : Int) ≤ (i : Int) := by omega
                  have hi1 : (i : Int) < (n : Int) := by omega
                  have hin : i + 1 ≤ n := by omega
                  have HBL := hid hbel
                  clear hbel
                  go_wp2_with fail
                  refine HNX.out.mono ?_
                  rintro e w8 ⟨nv, rfl, hown8, hb8⟩
                  have HB8 := hid (HBL.out.trans (hb8.mono hsz))
                  obtain ⟨na, nc, hv, _⟩ := own_argI hown8
                  subst hv
                  have HO8 := hid hown8
                  clear hown8 hb8
                  go_wp2_with fail
                  refine (HNY.out _ HB8.out).mono ?_
                  rintro e w9 ⟨mv, rfl, hown9, hb9⟩
                  have HO9 := hid hown9
                  have HN9 := hid (HO8.out.kept (grown_of3 (r := none) hb9) (Classical.em _))
                  have HB9 := hid (HB8.out.trans (hb9.mono HB8.out.size))
                  have HLB := hid (laterP HO8.out HO9.out (Nat.le_refl _))
                  have hs89 := hb9.size
                  clear hown9 hb9
                  go_wp2_with fail
                  obtain ⟨V, hV⟩ : ∃ V, V = wr := ⟨_, rfl⟩
                  subst hV
                  go_loopw [17] (fun z wr => ∃ k : Nat, k ≤ N.length ∧ z = .int .i64 k ∧ wr.ownsRow V.heap.size 3 1 (.slice na N.length nc) N.length (VI (addK N bn k)) ∧ wr.ownsRow w8.heap.size 3 1 mv (N.map (· + (bn : Int))).length (VI (N.map (· + (bn : Int)))) ∧ Below w7.heap.size w7 wr) (fun z _ => N.length - (intOf z).toNat)
                  case atStart => exact ⟨0, Nat.zero_le _, rfl, by rw [addK_zero]; exact HN9.out, HO9.out, HB9.out⟩
                  case round =>
                    obtain ⟨k, hk, rfl, hownA, hownB, hbel⟩ := hrel
                    by_cases hltk : k < N.length
                    · obtain ⟨q, c, hq⟩ := own_shapeG hownA (by omega)
                      have hq1 : na = some ⟨q, 0, none⟩ := by injection hq
                      have hc1 : nc = c := by injection hq
                      subst hq1 hc1
                      have ck := (hownA.cellAt k (by omega)).trans (VI_get _ k (by rw [addK_length]; exact hltk))
                      rw [addK_get N bn k hltk] at ck
                      have hz := HME.out (N.getD k 0) (by rw [List.getD_eq_getElem?_getD, List.getElem?_eq_getElem hltk]; exact List.getElem_mem _)
                      have fr := hownA.frozenAt k
                      have hgs := (hownA.lt q rfl).2
                      have hgb : V.heap.size ≤ q := (hownA.lt q rfl).1
                      have hst := hownA.stored k (.int .i64 (N.getD k 0 + (bn : Int)))
                      rw [VI_set, addK_set N bn k hltk] at hst
                      have HSA := hid hst.1
                      have HSB := hid (hownB.kept hst.2 (by
                        rcases laterP HO8.out hownB (Nat.le_refl _) with h | h
                        · exact Or.inl h
                        · exact Or.inr h))
                      have HSW := hid (hbel.setCell (p := ⟨q, k, none⟩) (show w7.heap.size ≤ q by omega) (.int .i64 (N.getD k 0 + (bn : Int))))
                      clear hownA hownB hst hbel hq
                      generalize N.getD k 0 = z at ck hz HSA HSB HSW
                      obtain ⟨hz0, hz1⟩ := hz
                      have hk0 : (0 : Int) ≤ (k : Int) := by omega
                      have hk1 : (k : Int) < (N.length : Int) := by omega
                      go_wp2_with fail
                      go_roundw
                      case rel => exact ⟨k + 1, by omega, by go_num, HSA.out, HSB.out, HSW.out⟩
                      case measure => simp [intOf]; omega
                    · have hkn : k = N.length := by omega
                      have HOA := hid (show wr.ownsRow V.heap.size 3 1 (.slice na N.length nc) N.length (VI (N.map (· + (bn : Int)))) from by
                        rw [hkn, addK_done] at hownA; exact hownA)
                      have hge : N.length ≤ k := by omega
                      have HSM := hid (sameI_any (.slice na N.length nc) mv (N.map (· + (bn : Int))) (N.map (· + (bn : Int))) wr (by simp; omega) (own_argI HOA.out) (own_argI hownB))
                      rw [decide_eq_true rfl] at HSM
                      have HBE := hid hbel
                      clear hkn hownA hownB hbel
                      go_wp2_with fail
                      refine HSM.out.mono ?_
                      rintro e w10 ⟨rfl, m10, rfl⟩
                      have HB10 := hid (below_drewN HBE.out m10)
                      go_wp2_with fail
                      go_roundw
                      case rel => exact ⟨i + 1, hin, by go_num, HB10.out⟩
                      case measure => simp [intOf]; omega
                · have hge : n ≤ i := by omega
                  clear hbel
                  go_wp2_with fail
                  refine (knownF_any _).mono ?_
                  rintro e w8 ⟨rfl, hb8⟩
                  have HB8 := hid (HBW.out.trans (hb8.mono HBW.out.size))
                  clear hb8
                  go_wp2_with fail
                  go_ret
                  exact ⟨rfl, HB8.out⟩
        · have HT := hid (own_argI HT7.out)
          have HU := hid (own_argI HO7.out)
          rw [outF_err he0] at HT
          rw [outF_err (by rw [hef]; exact he0)] at HU
          obtain ⟨ta, tc, rfl, _⟩ := HT.out
          obtain ⟨ua, uc, rfl, _⟩ := HU.out
          obtain ⟨er, her⟩ : ∃ er, errF l = er := ⟨_, rfl⟩
          rw [her] at he0 ⊢
          have hb0 : (er != 0) = true := by simpa using he0
          have hbe : (er != er) = false := by simp
          rw [List.length_nil]
          clear hef he0 her
          go_wp2_with fail
          refine (knownF_any _).mono ?_
          rintro e w8 ⟨rfl, hb8⟩
          have HW8 := hid (HW7.out.trans (hb8.mono hs7))
          clear hb8
          go_wp2_with fail
          go_ret
          exact ⟨rfl, HW8.out⟩
      · rcases HER.out with h | ⟨h11, hbk⟩
        · exact absurd h hef
        · rw [h11] at hef ⊢
          obtain ⟨er, her⟩ : ∃ er, errF (pads bs ++ l) = er := ⟨_, rfl⟩
          rw [her] at hef ⊢
          have hbe : ((11 : Int) != er) = true := by simpa using fun e => hef e.symm
          have HBK := hid (back_any (some ⟨b, off, none⟩) n cap l w7 (HA.out.up HW7.out) (by omega) HO.out)
          rw [hbk] at HBK
          clear hef her h11 hbk
          go_wp2_with fail
          refine HBK.out.mono ?_
          rintro e w8 ⟨rfl, hb8⟩
          have HW8 := hid (HW7.out.trans (hb8.mono hs7))
          clear hb8
          go_wp2_with fail
          refine (knownF_any _).mono ?_
          rintro e w9 ⟨rfl, hb9⟩
          have HW9 := hid (HW8.out.trans (hb9.mono HW8.out.size))
          clear hb9
          go_wp2_with fail
          go_ret
          exact ⟨rfl, HW9.out⟩
theorem flowPads (a : Option Addr) (n cap : Nat) (l : List In) (ba : Option Addr) (bn bc : Nat) (bs : List Bool) (w : World) (h : ArgN w a n l) (hwf : WfL l) (hc : n ≤ cap) (hm : cap ≤ 9223372036854775807) (hB : BoolsAt w ba bn bs) :
    Calls Try.prog 7 #[.slice a n cap, .slice ba bn bc] w fun e w' => e = .returned (.bool true) ∧ Below w.heap.size w w' := by
  cases hb : bigB l
  · by_cases h0 : n = 0
    · exact flowPads_known a n cap l ba bn bc w h hwf (by omega) (Or.inr ⟨hb, Or.inl h0⟩)
    · by_cases h1 : 200 < n
      · exact flowPads_known a n cap l ba bn bc w h hwf (by omega) (Or.inr ⟨hb, Or.inr (Or.inl ⟨by omega, h1⟩)⟩)
      · by_cases h2 : 40 < bn
        · exact flowPads_known a n cap l ba bn bc w h hwf (by omega) (Or.inr ⟨hb, Or.inr (Or.inr ⟨by omega, h1, h2⟩)⟩)
        · exact flowPads_few a n cap l ba bn bc bs w h hwf hb (by omega) h1 h2 hB
  · exact flowPads_known a n cap l ba bn bc w h hwf (by omega) (Or.inl hb)
end Go.Proofs.Ytpknnmnknaaccaa.Flow

namespace Go.Proofs.Ytpknnmnknaaccaa.flowPads
open Go.ChangeShapes Go.WideShapes Go.ChangeAt Go.RowKit Go.Proofs.Ytpknnmnknaaccaa.Flow Go.Proofs.Ytpknnmnknaaccaa.Insn
open Go.ChangeMaps (open_string shut_string)
set_option linter.unusedVariables false

theorem own : ownKnob Try.prog.godebug = none := by kernel_rfl
theorem laidOut : laidOutB Try.prog = true := by kernel_rfl

set_option maxRecDepth 100000 in
theorem lifted (os : Os) (started : os.Started) (H : Type) (enc : TypeId × Value → H) :
    ReturnsInHanded {} Try.checked os 7 .any (Rows.flowPadsSpec.pre6 enc Try.prog Try.f7 Rows.flowPadsRow.domain false) (Rows.flowPadsSpec.post enc Try.prog Try.f7 false true false false) := by
  refine returnsInHanded_of_change_sized (C := Try.checked) own started (by kernel_rfl) Try.func7
    (ChangeSpec.witness6 (enc := enc) (C := Try.checked) false ⟨#[], #[.slice none 0 0, .slice none 0 0], []⟩ 8 (by kernel_rfl) (by kernel_rfl) (by kernel_rfl) (by kernel_rfl)) ?_
  intro W base args ds gs before hval0 hW hcnd hsz0 _
  have hsz : (DataW.weightsEach Try.prog (Try.f7.params.toList ++ Rows.flowPadsSpec.plain.varTypes Try.prog) (ds ++ gs)).all (· ≤ reachBytes) = true := hsz0
  clear hsz0
  have hval : ∀ (j : Nat) t v, Try.f7.params[j]? = some t → args[j]? = some v → Value.okWide Try.prog W .any base t v := hval0
  have hW' := hW
  obtain ⟨p, q, hA0, hV, rfl, hfz, hnd⟩ := hW
  have hA : DataW.TrodAll enc Try.prog W 0 (fun _ => true) true Try.f7.params.toList args.toList ds p := hA0
  rw [Try.params7] at hA hval hsz
  obtain ⟨v0, vs0, d0, ds0, p0, q0, hargs, rfl, rfl, h0, r0⟩ := trodAll_cons hA
  obtain ⟨v1, vs1, d1, ds1, p1, q1, rfl, rfl, rfl, h1, r1⟩ := trodAll_cons r0
  obtain ⟨rfl, rfl, rfl⟩ := trodAll_nil r1
  obtain rfl : args = #[v0, v1] := by cases args; simp_all
  obtain ⟨rfl, rfl⟩ := trodVars_none hV
  have k0 := h0
  have lt0 : ∀ x ∈ p0, x.block < W.heap.size := by obtain ⟨m, hm⟩ := k0; exact DataW.trod_lt m _ _ _ hm
  obtain ⟨a0, len0, cap0, rfl⟩ := okWide_slice Try.underlying22 (hval 0 22 v0 rfl rfl)
  obtain ⟨l0, g0, w0, lc0, cm0⟩ := (let ⟨fuel, hf⟩ := h0; open_insns hf)
  have k1 := h1
  have lt1 : ∀ x ∈ p1, x.block < W.heap.size := by obtain ⟨m, hm⟩ := k1; exact DataW.trod_lt m _ _ _ hm
  obtain ⟨a1, len1, cap1, rfl⟩ := okWide_slice Try.underlying38 (hval 1 38 v1 rfl rfl)
  obtain ⟨l1, g1, lc1, cm1⟩ := (let ⟨fuel, hf⟩ := h1; open_bools hf)
  clear hA0 hval0
  refine (flowPads a0 len0 cap0 l0 a1 len1 cap1 l1 W g0 w0 lc0 cm0 g1).mono fun e W' ⟨he, bel⟩ => ?_
  subst he
  exact ⟨_, rfl, _, _, _, [], _, [], hW', trodAll_mk1 (shut_bool Try.underlying4 _), (trodAll_cons_mk (Below.trod laidOut (by kernel_rfl) (of_decide_eq_true (by kernel_rfl)) k0 bel lt0) (trodAll_cons_mk (Below.trod laidOut (by kernel_rfl) (of_decide_eq_true (by kernel_rfl)) k1 bel lt1) trodAll_mk0)), rfl, bel.frame _, fun h => by cases h⟩

theorem over : Rows.flowPadsRow.holds Try.pinned (OpenSpec.ofChange Rows.flowPadsSpec) :=
  OpenClaim.holds_of_wide 7 Try.f7 rfl rfl rfl rfl rfl rfl rfl ⟨rfl, rfl, rfl, rfl, rfl⟩ rfl rfl rfl rfl rfl (by kernel_rfl) Try.func7 (by kernel_rfl)
    (of_decide_eq_true (by kernel_rfl)) (by unfold Func.isWrapper; first | (rw [if_pos (by decide +kernel)]; kernel_rfl) | (rw [if_neg (by decide +kernel)]; exact ⟨rfl, rfl⟩))
    (fun os started H enc _ => lifted os started H enc)

theorem proved : Rows.FlowPadsSaid := over
#print axioms proved
end Go.Proofs.Ytpknnmnknaaccaa.flowPads
