/-
  Contracts of the program's table of instructions: enter.
-/
import Derived.Test.YtpknnmnknaaccaaDevTab
namespace Go.Proofs.Ytpknnmnknaaccaa.Insn
open Go.RowKit Go.Proofs.Ytpknnmnknaaccaa.Num Go.Maps
/-! ### The table -/
/-- What a row asks of an instruction's fields. -/
structure FV where
  dst : Int
  src : Int
  off : Bool
  imm : Int
def FV.cells (f : FV) : Array Value := #[.int .u8 f.dst, .int .u8 f.src, .bool f.off, .int .u8 f.imm]
def FV.data (f : FV) : DataW Unit := .agg [.lit (.int .u8 f.dst), .lit (.int .u8 f.src), .lit (.bool f.off), .lit (.int .u8 f.imm)]
def rowElem : Value → Option (DataW Unit × List MemPlace)
  | .agg cs => match cs.toList with
    | [.slice _ _ _, .int .u8 d, .int .u8 s, .bool o, .int .u8 m] => some ((FV.mk d s o m).data, [])
    | _ => none
  | _ => none
theorem rowElem_mk (a : Option Addr) (n c : Nat) (f : FV) : rowElem (.agg #[.slice a n c, .int .u8 f.dst, .int .u8 f.src, .bool f.off, .int .u8 f.imm]) = some (f.data, []) := rfl
theorem rowElem_inv {v : Value} {d : DataW Unit} {ps : List MemPlace} (h : rowElem v = some (d, ps)) : ∃ a n c, ∃ f : FV, v = .agg #[.slice a n c, .int .u8 f.dst, .int .u8 f.src, .bool f.off, .int .u8 f.imm] ∧ d = f.data := by
  unfold rowElem at h
  split at h
  · rename_i cs
    split at h
    · rename_i a n c d' s o m hcs
      simp only [Option.some.injEq, Prod.mk.injEq] at h
      refine ⟨a, n, c, ⟨d', s, o, m⟩, ?_, h.1.symm⟩
      rw [← Array.toArray_toList (xs := cs), hcs]
    · cases h
  · cases h
abbrev Fun := Int → Option FV
def putOp (f : FV) (F : Fun) (op : Int) : Fun := fun k => if k = op then some f else F k
def putOps (f : FV) (F : Fun) (ops : List Int) : Fun := ops.foldl (putOp f) F
structure RowD where
  at_ : Nat
  ops : List Int
  f : FV
def putRows (F : Fun) (rs : List RowD) : Fun := rs.foldl (fun F r => putOps r.f F r.ops) F
theorem putOps_succ (f : FV) (F : Fun) (ops : List Int) (k : Nat) (h : k < ops.length) : putOp f (putOps f F (ops.take k)) (ops.getD k 0) = putOps f F (ops.take (k + 1)) := by
  unfold putOps
  rw [List.take_succ_eq_append_getElem h, List.foldl_append]
  simp [h]
theorem putRows_succ (F : Fun) (rs : List RowD) (k : Nat) (r : RowD) (h : rs[k]? = some r) : putOps r.f (putRows F (rs.take k)) r.ops = putRows F (rs.take (k + 1)) := by
  unfold putRows
  obtain ⟨hk, e⟩ := List.getElem?_eq_some_iff.1 h
  rw [List.take_succ_eq_append_getElem hk, List.foldl_append, e]
  rfl
/-- What the datum tells of a key. -/
def Tell (D : DataW Unit) (k : Int) : Option FV → Prop
  | none => has D (.int .i64 k) = false
  | some f => has D (.int .i64 k) = true ∧ ∀ z, D.atKey (.int .i64 k) z = f.data
theorem law : Keyed Try.prog 3 := int_keyed Try.underlying3
/-- Block b of w is a map whose rows are those of F. -/
def Tab (w : World) (b n : Nat) (F : Fun) : Prop :=
  ∃ D : DataW Unit, w.ownsMap Try.prog 3 rowElem b n D ∧ IsMap D ∧ ∀ k, Tell D k (F k)
theorem Tab.mono {w : World} {b n n' : Nat} {F : Fun} (h : Tab w b n F) (hn : n ≤ n') : Tab w b n' F := by
  obtain ⟨D, h, r⟩ := h; exact ⟨D, h.mono hn, r⟩
theorem Tab.kept {w w' : World} {b n : Nat} {F : Fun} {row : Option Nat} (h : Tab w b n F) (hg : w.grownBy w' row) (hne : some b ≠ row) : Tab w' b n F := by
  obtain ⟨D, h, r⟩ := h; exact ⟨D, h.kept hg hne, r⟩
theorem Tab.alloc {w : World} {b n : Nat} {F : Fun} (h : Tab w b n F) (o : Obj) : Tab (w.alloc o) b n F := by
  obtain ⟨D, h, r⟩ := h; exact ⟨D, h.alloc o, r⟩
theorem Tab.drew {w : World} {b n : Nat} {F : Fun} (h : Tab w b n F) : Tab w.drew b n F := by
  obtain ⟨D, h, r⟩ := h; exact ⟨D, h.drew, r⟩
theorem Tab.setCell {w : World} {b n : Nat} {F : Fun} (h : Tab w b n F) {a : Addr} (ha : b ≠ a.block) (u : Value) : Tab (w.setCell a u) b n F := by
  obtain ⟨D, h, r⟩ := h; exact ⟨D, h.setCell ha u, r⟩
theorem Tab.lt {w : World} {b n : Nat} {F : Fun} (h : Tab w b n F) : b < w.heap.size := by
  obtain ⟨D, h, r⟩ := h; exact h.lt
theorem tab_made (w : World) : Tab (w.alloc (.map #[] 0)) w.heap.size 0 (fun _ => none) :=
  ⟨_, World.ownsMap_made w _ _ _, isMap_empty, fun _ => rfl⟩
theorem tell_put {D : DataW Unit} {F : Fun} (hD : IsMap D) (h : ∀ k, Tell D k (F k)) (op : Int) (f : FV) (k : Int) : Tell (D.put (.int .i64 op) f.data) k (putOp f F op k) := by
  by_cases hk : k = op
  · subst hk
    rw [show putOp f F k k = some f by simp [putOp]]
    exact ⟨has_put_same hD (show WideAt.IsKeyLit (.int .i64 k) from trivial) _, fun z => atKey_put_same hD (show WideAt.IsKeyLit (.int .i64 k) from trivial) _ z⟩
  · have hne : (Lit.int .i64 k) ≠ Lit.int .i64 op := fun e => by cases e; exact hk rfl
    rw [show putOp f F op k = F k by simp [putOp, hk]]
    have t := h k
    cases hF : F k with
    | none => rw [hF] at t; exact (has_put_other hne _).trans t
    | some g => rw [hF] at t; exact ⟨(has_put_other hne _).trans t.1, fun z => (atKey_put_other hne _ z).trans (t.2 z)⟩
/-- The rows that are handed to enter. -/
def RowAt (w : World) (b j : Nat) (r : RowD) : Prop :=
  w.cell? ⟨b, j * 5, none⟩ = some (.slice (some ⟨r.at_, 0, none⟩) r.ops.length r.ops.length) ∧ w.cell? ⟨b, j * 5 + 1, none⟩ = some (.int .u8 r.f.dst) ∧ w.cell? ⟨b, j * 5 + 2, none⟩ = some (.int .u8 r.f.src) ∧
  w.cell? ⟨b, j * 5 + 3, none⟩ = some (.bool r.f.off) ∧ w.cell? ⟨b, j * 5 + 4, none⟩ = some (.int .u8 r.f.imm) ∧ Nums w r.at_ 0 r.ops ∧ r.at_ < w.heap.size ∧ r.ops.length ≤ 100 ∧ ∀ i, (Lit.int .i64 (r.ops.getD i 0)).wf = true
theorem grownBy_setCell {w w1 : World} {r : Option Nat} (h : w.grownBy w1 r) {a : Addr} (ha : w.heap.size ≤ a.block) (u : Value) : w.grownBy (w1.setCell a u) r :=
  ⟨h.os, h.tape, h.output, by simpa using h.size, fun k hk hne => (RowKit.Below.heap_setCell w1 a u k (by omega)).trans (h.block k hk hne)⟩
theorem grownBy_trans' {a b c : World} {r : Option Nat} (h : a.grownBy b r) (k : b.grownBy c r) : a.grownBy c r :=
  ⟨k.os.trans h.os, k.tape.trans h.tape, k.output.trans h.output, Nat.le_trans h.size k.size, fun i hi hne => (k.block i (Nat.lt_of_lt_of_le hi h.size) hne).trans (h.block i hi hne)⟩
set_option maxHeartbeats 2000000 in
theorem enter_any (mb n rb cap : Nat) (F : Fun) (rs : List RowD) (w : World) (hn : n + 100 * rs.length ≤ 100000) (hT : Tab w mb n F) (hne : rb ≠ mb) (hrs : ∀ j r, rs[j]? = some r → RowAt w rb j r ∧ r.at_ ≠ mb) :
    Calls Try.prog 53 #[.map (some mb), .slice (some ⟨rb, 0, none⟩) rs.length cap] w fun e w' => e = .returned (.tuple #[]) ∧ Tab w' mb (n + 100 * rs.length) (putRows F rs) ∧ w.grownBy w' (some mb) := by
  have HR := hid hrs; clear hrs
  have HS := hid (fun k r h => putRows_succ F rs k r h)
  obtain ⟨m, hm⟩ : ∃ m, rs.length = m := ⟨_, rfl⟩
  have HD := hid (show putRows F (rs.take m) = putRows F rs by rw [← hm, List.take_length])
  have HT := hid hT
  have hmb := hT.lt
  clear hT
  rw [hm] at hn ⊢
  have HM := hid hm; clear hm
  go_enter Try.func53, Try.ntmps53
  go_wp2
  go_loopw [10] (fun i wr => ∃ k : Nat, k ≤ m ∧ i = .int .i64 k ∧ Tab wr mb (n + 100 * k) (putRows F (rs.take k)) ∧ w.grownBy wr (some mb)) (fun i _ => m - (intOf i).toNat)
  case atStart => exact ⟨0, Nat.zero_le _, rfl, HT.out, World.grownBy.refl _ _⟩
  case round =>
    obtain ⟨k, hk, rfl, hT, hgr⟩ := hrel
    by_cases hlt : k < m
    · have hkr : k < rs.length := by rw [HM.out]; exact hlt
      obtain ⟨⟨ra, ops, f⟩, hr⟩ : ∃ r, rs[k]? = some r := ⟨_, List.getElem?_eq_getElem hkr⟩
      obtain ⟨⟨c0, c1, c2, c3, c4, cN, hra, hol, hwf⟩, hrne⟩ := HR.out k _ hr
      simp only at c0 c1 c2 c3 c4 cN hra hol hwf hrne
      have up : ∀ {o : Nat} {v : Value}, w.cell? ⟨rb, o, none⟩ = some v → wr.cell? ⟨rb, o, none⟩ = some v := fun hc => hgr.cell hc (by simp; exact hne)
      replace c0 := up c0
      replace c1 := up c1
      replace c2 := up c2
      replace c3 := up c3
      replace c4 := up c4
      have HSK := hid (HS.out k _ hr)
      have HOP := hid (fun i h => putOps_succ f (putRows F (rs.take k)) ops i h)
      have HTK := hid hT
      have HGR := hid hgr
      have HN := hid cN
      have HWF := hid hwf
      obtain ⟨fd, fs, fo, fm⟩ := f
      simp only at c1 c2 c3 c4
      obtain ⟨q, hq⟩ : ∃ q, ops.length = q := ⟨_, rfl⟩
      rw [hq] at c0 hol
      have HQ := hid hq
      have hrs := hgr.size
      clear hq up hr hT hgr cN hwf hkr HR HS
      go_wp2
      obtain ⟨wo, rfl⟩ : ∃ wo : World, wo = wr := ⟨_, rfl⟩
      generalize hW : wo.alloc (.cells #[.slice (some ⟨ra, 0, none⟩) q q, .int .u8 fd, .int .u8 fs, .bool fo, .int .u8 fm] 60) = W
      have g1 : wo.grownBy W (some mb) := by rw [← hW]; exact World.grownBy_alloc _ _ _
      have hT1 : Tab W mb (n + 100 * k + 0) (putOps ⟨fd, fs, fo, fm⟩ (putRows F (rs.take k)) (ops.take 0)) := by rw [← hW]; exact HTK.out.alloc _
      have hg : wo.heap.size < W.heap.size := by rw [← hW]; simp
      have x0 : W.cell? ⟨wo.heap.size, 0, none⟩ = some (.slice (some ⟨ra, 0, none⟩) q q) := by rw [← hW]; simp
      have x1 : W.cell? ⟨wo.heap.size, 1, none⟩ = some (.int .u8 fd) := by rw [← hW]; simp
      have x2 : W.cell? ⟨wo.heap.size, 2, none⟩ = some (.int .u8 fs) := by rw [← hW]; simp
      have x3 : W.cell? ⟨wo.heap.size, 3, none⟩ = some (.bool fo) := by rw [← hW]; simp
      have x4 : W.cell? ⟨wo.heap.size, 4, none⟩ = some (.int .u8 fm) := by rw [← hW]; simp
      have hN1 : Hid (Nums W ra 0 ops) := hid fun i hi => g1.cell (HGR.out.cell (HN.out i hi) (by simp; exact hrne)) (by simp; exact hrne)
      have hmg : mb ≠ wo.heap.size := by omega
      have HG1 := hid g1
      have HT1 := hid hT1
      clear c0 c1 c2 c3 c4 hW g1 hT1
      go_loopw [17] (fun i wr => ∃ j : Nat, j ≤ q ∧ i = .int .i64 j ∧ Tab wr mb (n + 100 * k + j) (putOps ⟨fd, fs, fo, fm⟩ (putRows F (rs.take k)) (ops.take j)) ∧ W.grownBy wr (some mb)) (fun i _ => q - (intOf i).toNat)
      case atStart => exact ⟨0, Nat.zero_le _, rfl, HT1.out, World.grownBy.refl _ _⟩
      case round =>
        obtain ⟨j, hj, rfl, hT2, hgr2⟩ := hrel
        by_cases hltj : j < q
        · have up : ∀ {o : Nat} {v : Value}, W.cell? ⟨wo.heap.size, o, none⟩ = some v → wr.cell? ⟨wo.heap.size, o, none⟩ = some v := fun hc => hgr2.cell hc (by simp; omega)
          have y0 := up x0
          have y1 := up x1
          have y2 := up x2
          have y3 := up x3
          have y4 := up x4
          have yn := hgr2.cell (hN1.out j (by rw [HQ.out]; exact hltj)) (by simp; exact hrne)
          rw [Nat.zero_add] at yn
          have hstep := hid (HOP.out j (by rw [HQ.out]; exact hltj))
          have hkey : keyOf Try.prog 3 (.int .i64 (ops.getD j 0)) = some (.int .i64 (ops.getD j 0)) := keyOf_int_mk Try.underlying3 (HWF.out j)
          have hHK := hid hkey
          obtain ⟨D, hown, hD, hTell⟩ := hT2
          have HTELL := hid hTell
          have HD2 := hid hD
          have HGR2 := hid hgr2
          generalize ops.getD j 0 = x at yn hHK hstep
          clear up hkey hD hTell hgr2 x0 x1 x2 x3 x4
          go_wp2_with (at_mapUpdate; refine wpList_mapUpdate_own _ rfl _ _ _ 63 rfl 3 60 law Try.underlying63 rowElem mb (n + 100 * k + j) D rfl hown (by unfold maxLen; omega) _ _ _ rfl rfl hHK.out _ [] (rowElem_mk (some ⟨ra, 0, none⟩) q q ⟨fd, fs, fo, fm⟩) ?_; intro w1 hown1 hgrow1)
          go_roundw
          case rel => exact ⟨j + 1, by omega, by go_num, ⟨_, hown1, HD2.out.put _ _, by rw [← hstep.out]; exact tell_put HD2.out HTELL.out x _⟩, grownBy_trans' HGR2.out hgrow1⟩
          case measure => simp [intOf]; omega
        · have hjq : j = q := by omega
          have hT3 := hid hT2
          have hG3 := hid hgr2
          clear hT2 hgr2 x0 x1 x2 x3 x4
          go_wp2
          go_roundw
          case rel => exact ⟨k + 1, by omega, by go_num, by
            have t := hT3.out
            rw [hjq, ← HQ.out, List.take_length, HSK.out] at t
            exact t.mono (by rw [HQ.out]; omega), grownBy_trans' (grownBy_trans' HGR.out HG1.out) hG3.out⟩
          case measure => simp [intOf]; omega
    · have hkm : k = m := by omega
      have hT3 := hid hT
      have hG3 := hid hgr
      clear hT hgr
      go_wp2
      go_end0
      exact ⟨rfl, by have t := hT3.out; rw [hkm, HD.out] at t; exact t, hG3.out⟩
end Go.Proofs.Ytpknnmnknaaccaa.Insn
