/-
  The document's sums of tnums, bit by bit.
-/
import Derived.Deep.DeepCutAuto
import Derived.Test.YtpbhfpogbndljaaDoorRtK
namespace Go.Proofs.YtpbhfpogbndljaaDoor.Rt
open Go.RowKit Go.Proofs.YtpbhfpogbndljaaDoor.Num Go.Proofs.YtpbhfpogbndljaaDoor.Up
/-- Which bits the k-th round of eight takes. -/
def pk (k : Nat) : Bool := k % 2 == 1
def qk (k : Nat) : Bool := k / 2 % 2 == 1
def ck (k : Nat) : Bool := k / 4 == 1
def mayB (b : BB) (i : Nat) (p : Bool) : Bool := bif p then b.O i else b.Z i
def turnk (f : Bool → Bool → Bool → Bool) (x y : BB) (c : Bool × Bool) (r k : Nat) : Bool := turn8 f (x.Z r) (x.O r) (y.Z r) (y.O r) c.1 c.2 (pk k) (qk k) (ck k)
def someTo (f : Bool → Bool → Bool → Bool) (x y : BB) (c : Bool × Bool) (r : Nat) : Nat → Bool
  | 0 => false
  | k + 1 => someTo f x y c r k || turnk f x y c r k
theorem turn_no {f : Bool → Bool → Bool → Bool} {xz xo yz yo c0 c1 p q c : Bool} (h : (bif (bif (!(bif p then xo else xz)) then true else (!(bif q then yo else yz))) then true else (!(bif c then c1 else c0))) = true) : turn8 f xz xo yz yo c0 c1 p q c = false := by
  revert h
  unfold turn8 allow
  generalize f p q c = z
  cases p <;> cases q <;> cases c <;> revert xz xo yz yo c0 c1 z <;> decide
theorem turn_yes {f : Bool → Bool → Bool → Bool} {xz xo yz yo c0 c1 p q c : Bool} (h : (bif (bif (!(bif p then xo else xz)) then true else (!(bif q then yo else yz))) then true else (!(bif c then c1 else c0))) = false) : turn8 f xz xo yz yo c0 c1 p q c = f p q c := by
  revert h
  unfold turn8 allow
  generalize f p q c = z
  cases p <;> cases q <;> cases c <;> revert xz xo yz yo c0 c1 z <;> decide
theorem to_same {f : Bool → Bool → Bool → Bool} {x y : BB} {c : Bool × Bool} {r k : Nat} (h : turnk f x y c r k = false) : someTo f x y c r (k + 1) = someTo f x y c r k := by
  show (someTo f x y c r k || turnk f x y c r k) = _
  rw [h, Bool.or_false]
theorem to_true {f : Bool → Bool → Bool → Bool} {x y : BB} {c : Bool × Bool} {r k : Nat} (h : turnk f x y c r k = true) : someTo f x y c r (k + 1) = true := by
  show (someTo f x y c r k || turnk f x y c r k) = _
  rw [h, Bool.or_true]
theorem upd_upd {B : Nat → Bool} {i : Nat} {u v : Bool} : upd (upd B i u) i v = upd B i v := by
  funext j
  unfold upd
  by_cases h : j = i <;> simp [h]
theorem upd_false {F : Nat → Bool} {r : Nat} : upd (upto r F) r false = upto r F := by
  funext j
  unfold upd upto
  by_cases h : j = r
  · subst h; simp
  · simp [h]
set_option maxRecDepth 100000 in
set_option maxHeartbeats 1000000 in
theorem ref_may_0 (x0 : BB)  (i : Nat) (hi : i < 64) (w : World) :
    Calls Tryd.prog 51 #[.agg (fnV 128 (two 64 x0.Z x0.O)).toArray, .int .i64 ((i : Nat) : Int), .int .i64 0] w fun e w' => e = .returned (.bool (x0.Z i)) ∧ Below w.heap.size w w' := by
  go_enter Tryd.func51, Tryd.ntmps51
  have HS : Hid (St w [⟨w.heap.size, ((fnV 128 (two 64 x0.Z x0.O)).map some), 48⟩] _) := hid ((st_nil w).alloc (k := w.heap.size) rfl (fnV 128 (two 64 x0.Z x0.O)) 48)
  go_upto_region 1 with fail
  refine lnb HS.out rfl ?_
  refine lm 0 2 rfl rfl rfl rfl ?_
  simp only [sA, sB]
  refine lv 1 (.bool true) rfl rfl (by intro x hx; go_simp; (first | done | exact rfl)) ?_
  simp only [sA, sB]
  clear HS
  refine ld fun W1 HS => ?_
  go_upto_region 2 with fail
  refine lnb HS.out rfl ?_
  refine lm 0 1 rfl rfl rfl rfl ?_
  simp only [sA, sB]
  refine lv 1 (.pointer (some ⟨w.heap.size, 0, none⟩)) rfl rfl (by intro x hx; go_simp; (first | done | exact rfl)) ?_
  simp only [sA, sB]
  refine lv 2 (.pointer (some ⟨w.heap.size, i, none⟩)) rfl rfl (by intro x hx; go_simp; first | (rw [if_pos (by omega)]; done) | (rw [if_pos (by omega)]; rfl) | (intro hq; exfalso; omega) | (simp; omega)) ?_
  simp only [sA, sB]
  refine lv 3 (.bool (x0.Z i)) rfl rfl (by intro x hx; have f0 := hx.fn 0 (i) rfl (by omega); rw [two_lo (by omega)] at f0; go_simp; (first | done | exact rfl)) ?_
  simp only [sA, sB]
  refine la 4 12 rfl rfl rfl rfl ?_
  simp only [sA, sB]
  clear HS
  refine ld fun W2 HS => ?_
  go_wp2
  exact bodyPost_ret (v := .bool (x0.Z i)) (by simp [results, Tryd.results51, go_sem]) rfl ⟨rfl, HS.out.below⟩
set_option maxRecDepth 100000 in
set_option maxHeartbeats 1000000 in
theorem ref_may_1 (x0 : BB)  (i : Nat) (hi : i < 64) (w : World) :
    Calls Tryd.prog 51 #[.agg (fnV 128 (two 64 x0.Z x0.O)).toArray, .int .i64 ((i : Nat) : Int), .int .i64 1] w fun e w' => e = .returned (.bool (x0.O i)) ∧ Below w.heap.size w w' := by
  go_enter Tryd.func51, Tryd.ntmps51
  have HS : Hid (St w [⟨w.heap.size, ((fnV 128 (two 64 x0.Z x0.O)).map some), 48⟩] _) := hid ((st_nil w).alloc (k := w.heap.size) rfl (fnV 128 (two 64 x0.Z x0.O)) 48)
  go_upto_region 1 with fail
  refine lnb HS.out rfl ?_
  refine lm 0 2 rfl rfl rfl rfl ?_
  simp only [sA, sB]
  refine lv 1 (.bool false) rfl rfl (by intro x hx; go_simp; (first | done | exact rfl)) ?_
  simp only [sA, sB]
  clear HS
  refine ld fun W1 HS => ?_
  go_upto_region 3 with fail
  refine lnb HS.out rfl ?_
  refine lm 0 1 rfl rfl rfl rfl ?_
  simp only [sA, sB]
  refine lv 1 (.pointer (some ⟨w.heap.size, 64, none⟩)) rfl rfl (by intro x hx; go_simp; (first | done | exact rfl)) ?_
  simp only [sA, sB]
  refine lv 2 (.pointer (some ⟨w.heap.size, 64 + i, none⟩)) rfl rfl (by intro x hx; go_simp; first | (rw [if_pos (by omega)]; done) | (rw [if_pos (by omega)]; rfl) | (intro hq; exfalso; omega) | (simp; omega)) ?_
  simp only [sA, sB]
  refine lv 3 (.bool (x0.O i)) rfl rfl (by intro x hx; have f0 := hx.fn 0 (64 + i) rfl (by omega); rw [two_hi] at f0; go_simp; (first | done | exact rfl)) ?_
  simp only [sA, sB]
  refine la 4 16 rfl rfl rfl rfl ?_
  simp only [sA, sB]
  clear HS
  refine ld fun W2 HS => ?_
  go_wp2
  exact bodyPost_ret (v := .bool (x0.O i)) (by simp [results, Tryd.results51, go_sem]) rfl ⟨rfl, HS.out.below⟩
set_option maxRecDepth 100000 in
set_option maxHeartbeats 8000000 in
theorem ref_carried_maj3 (x0 : P) (x1 : P)   (w : World) :
    Calls Tryd.prog 45 #[vU x0, vU x1, .bool false] w fun e w' => e = .returned (vU (tnumB (sumB maj3 (ofB x0) (ofB x1)))) ∧ Below w.heap.size w w' := by
  have hz48 := zero_48
  simp only [vU]
  go_enter Tryd.func45, Tryd.ntmps45
  have HS : Hid (St w [⟨w.heap.size, [some (.int .u64 (tn (x0.lo))), some (.int .u64 (tn (x0.hi)))], 24⟩, ⟨w.heap.size + 1, [some (.int .u64 (tn (x1.lo))), some (.int .u64 (tn (x1.hi)))], 24⟩, ⟨w.heap.size + 2, [some (.int .u64 0), some (.int .u64 0)], 24⟩] _) := hid ((((st_nil w).alloc (k := w.heap.size) rfl [.int .u64 (tn (x0.lo)), .int .u64 (tn (x0.hi))] 24).alloc (k := w.heap.size + 1) (by simp) [.int .u64 (tn (x1.lo)), .int .u64 (tn (x1.hi))] 24).alloc (k := w.heap.size + 2) (by simp) [.int .u64 0, .int .u64 0] 24)
  go_upto_region 1 with fail
  refine lnb HS.out rfl ?_
  refine lv 0 (vU x0) rfl rfl (by intro x hx; obtain ⟨f0, f1⟩ := hx.two 0 0 rfl rfl; go_simp; (first | done | exact rfl)) ?_
  simp only [sA, sB, vU]
  refine lc 1 43 #[vU x0] (.agg (fnV 128 (two 64 (ofB x0).Z (ofB x0).O)).toArray) rfl rfl (by intro x hx; exact ref_Of_any x0 _) ?_
  simp only [sA, sB]
  refine lin_new (i := 2) rfl rfl (by rfl) (fnV 128 (fun _ => false)) 48 (fun k => .pointer (some ⟨k, 0, none⟩)) ((fnV 128 (fun _ => false)).map some) (lessC_refl _) (by intro x hx; go_simp; (first | done | exact rfl)) (fun k1 => ?_)
  simp only [sA, sB, sC, sD]
  refine lin_store (i := 3) (St w [⟨w.heap.size, [some (.int .u64 (tn (x0.lo))), some (.int .u64 (tn (x0.hi)))], 24⟩, ⟨w.heap.size + 1, [some (.int .u64 (tn (x1.lo))), some (.int .u64 (tn (x1.hi)))], 24⟩, ⟨w.heap.size + 2, [some (.int .u64 0), some (.int .u64 0)], 24⟩, ⟨k1, ((fnV 128 (two 64 (ofB x0).Z (ofB x0).O)).map some), 48⟩]) rfl rfl (by rfl) (fun x => x.setCells k1 0 (fnV 128 (two 64 (ofB x0).Z (ofB x0).O))) (by intro x hx; exact storeF hx 3 rfl (by simp [fnV_len]) (fnV_one _ _) rfl rfl rfl (fun w => by rw [fnV_len]; kernel_rfl)) (fun x hx => hx.putF 3 _ rfl (by simp [fnV_len])) ?_
  clear HS
  refine ld fun W1 HS => ?_
  go_upto_region 2 with fail
  refine lnb HS.out rfl ?_
  refine lv 0 (vU x1) rfl rfl (by intro x hx; obtain ⟨f0, f1⟩ := hx.two 1 0 rfl rfl; go_simp; (first | done | exact rfl)) ?_
  simp only [sA, sB, vU]
  refine lc 1 43 #[vU x1] (.agg (fnV 128 (two 64 (ofB x1).Z (ofB x1).O)).toArray) rfl rfl (by intro x hx; exact ref_Of_any x1 _) ?_
  simp only [sA, sB]
  refine lin_new (i := 2) rfl rfl (by rfl) (fnV 128 (fun _ => false)) 48 (fun k => .pointer (some ⟨k, 0, none⟩)) ((fnV 128 (fun _ => false)).map some) (lessC_refl _) (by intro x hx; go_simp; (first | done | exact rfl)) (fun k2 => ?_)
  simp only [sA, sB, sC, sD]
  refine lin_store (i := 3) (St w [⟨w.heap.size, [some (.int .u64 (tn (x0.lo))), some (.int .u64 (tn (x0.hi)))], 24⟩, ⟨w.heap.size + 1, [some (.int .u64 (tn (x1.lo))), some (.int .u64 (tn (x1.hi)))], 24⟩, ⟨w.heap.size + 2, [some (.int .u64 0), some (.int .u64 0)], 24⟩, ⟨k1, ((fnV 128 (two 64 (ofB x0).Z (ofB x0).O)).map some), 48⟩, ⟨k2, ((fnV 128 (two 64 (ofB x1).Z (ofB x1).O)).map some), 48⟩]) rfl rfl (by rfl) (fun x => x.setCells k2 0 (fnV 128 (two 64 (ofB x1).Z (ofB x1).O))) (by intro x hx; exact storeF hx 4 rfl (by simp [fnV_len]) (fnV_one _ _) rfl rfl rfl (fun w => by rw [fnV_len]; kernel_rfl)) (fun x hx => hx.putF 4 _ rfl (by simp [fnV_len])) ?_
  clear HS
  refine ld fun W2 HS => ?_
  go_upto_region 3 with fail
  refine lnb HS.out rfl ?_
  refine lin_new (i := 0) rfl rfl (by rfl) (fnV 128 (fun _ => false)) 48 (fun k => .pointer (some ⟨k, 0, none⟩)) ((fnV 128 (fun _ => false)).map some) (lessC_refl _) (by intro x hx; go_simp; (first | done | exact rfl)) (fun k3 => ?_)
  simp only [sA, sB, sC, sD]
  clear HS
  refine ld fun W3 HS => ?_
  go_upto_region 4 with fail
  refine lnb HS.out rfl ?_
  refine lv 0 (.agg #[.bool true, .bool false]) rfl rfl (by intro x hx; go_simp; (first | done | exact rfl)) ?_
  simp only [sA, sB]
  refine lin_new (i := 1) rfl rfl (by rfl) [.bool false, .bool false] 60 (fun k => .pointer (some ⟨k, 0, none⟩)) [some (.bool false), some (.bool false)] (lessC_refl _) (by intro x hx; go_simp; (first | done | exact rfl)) (fun k4 => ?_)
  simp only [sA, sB, sC, sD]
  refine ls 2 6 0 [.bool true, .bool false] rfl rfl rfl (by intro x hx; obtain ⟨⟨_, z0, q0⟩, ⟨_, z1, q1⟩⟩ := hx.at2 6 0 rfl; go_simp; (first | done | rfl)) ?_
  simp only [Blk.putC, setM, sA, sB]
  clear HS
  refine ld fun W4 HS => ?_
  go_upto_region 5 with fail
  refine lnb HS.out rfl ?_
  refine lv 0 (.int .i64 0) rfl rfl (by intro x hx; go_simp; (first | done | exact rfl)) ?_
  simp only [sA, sB]
  clear HS
  refine ld fun W5 HS => ?_
  go_wp2
  refine loop_up 64 (fun k a W => Hid (∃ u1_12 u1_13 u1_14 u1_15 u1_16 u1_17 u1_18 u1_24 u1_25 u1_26 u1_27 u1_28 u1_29 u1_30 u1_31 u1_32 u1_33 u1_34 u1_35 u1_36 u1_37 u1_38 u1_39 u1_40 u1_41 u1_42 u1_43 u1_44 u1_45 u1_46 u1_47 u1_48 u1_49 u1_50 u1_51 u1_52 u1_53 u1_54 u1_55 u1_56 u1_57 u1_58 u1_59 u1_60 u1_61 u1_62 u1_63 u1_64 u1_65 u1_66 u1_67 u1_68 u1_69 u1_70 u1_71 u1_72 u1_73 u1_74 u1_75 u1_76 u1_77 u1_78 u1_79 u1_80 u1_81 u1_82 u1_83 u1_84 u1_85 u1_86 u1_87 : Value, a = Act.mk [vU x0, vU x1, .bool false, .pointer (some ⟨w.heap.size, 0, none⟩), .pointer (some ⟨w.heap.size + 1, 0, none⟩), undef, .pointer (some ⟨w.heap.size + 2, 0, none⟩), .pointer (some ⟨k1, 0, none⟩), .pointer (some ⟨k2, 0, none⟩), .pointer (some ⟨k3, 0, none⟩), .pointer (some ⟨k4, 0, none⟩), .int .i64 ((k : Nat) : Int), u1_12, u1_13, u1_14, u1_15, u1_16, u1_17, u1_18, vU x0, .agg (fnV 128 (two 64 (ofB x0).Z (ofB x0).O)).toArray, vU x1, .agg (fnV 128 (two 64 (ofB x1).Z (ofB x1).O)).toArray, .agg #[.bool true, .bool false], u1_24, u1_25, u1_26, u1_27, u1_28, u1_29, u1_30, u1_31, u1_32, u1_33, u1_34, u1_35, u1_36, u1_37, u1_38, u1_39, u1_40, u1_41, u1_42, u1_43, u1_44, u1_45, u1_46, u1_47, u1_48, u1_49, u1_50, u1_51, u1_52, u1_53, u1_54, u1_55, u1_56, u1_57, u1_58, u1_59, u1_60, u1_61, u1_62, u1_63, u1_64, u1_65, u1_66, u1_67, u1_68, u1_69, u1_70, u1_71, u1_72, u1_73, u1_74, u1_75, u1_76, u1_77, u1_78, u1_79, u1_80, u1_81, u1_82, u1_83, u1_84, u1_85, u1_86, u1_87, undef, undef].toArray [] ∧ St w [⟨w.heap.size, [some (.int .u64 (tn (x0.lo))), some (.int .u64 (tn (x0.hi)))], 24⟩, ⟨w.heap.size + 1, [some (.int .u64 (tn (x1.lo))), some (.int .u64 (tn (x1.hi)))], 24⟩, ⟨w.heap.size + 2, [some (.int .u64 0), some (.int .u64 0)], 24⟩, ⟨k1, ((fnV 128 (two 64 (ofB x0).Z (ofB x0).O)).map some), 48⟩, ⟨k2, ((fnV 128 (two 64 (ofB x1).Z (ofB x1).O)).map some), 48⟩, ⟨k3, ((fnV 128 (two 64 (upto k (sumB maj3 (ofB x0) (ofB x1)).Z) (upto k (sumB maj3 (ofB x0) (ofB x1)).O))).map some), 48⟩, ⟨k4, [some (.bool ((cars maj3 (ofB x0) (ofB x1) k).1)), some (.bool ((cars maj3 (ofB x0) (ofB x1) k).2))], 60⟩] W)) (hid ⟨(undef), (undef), (undef), (undef), (undef), (undef), (undef), (undef), (undef), (undef), (undef), (undef), (undef), (undef), (undef), (undef), (undef), (undef), (undef), (undef), (undef), (undef), (undef), (undef), (undef), (undef), (undef), (undef), (undef), (undef), (undef), (undef), (undef), (undef), (undef), (undef), (undef), (undef), (undef), (undef), (undef), (undef), (undef), (undef), (undef), (undef), (undef), (undef), (undef), (undef), (undef), (undef), (undef), (undef), (undef), (undef), (undef), (undef), (undef), (undef), (undef), (undef), (undef), (undef), (undef), (undef), (undef), (undef), (undef), (undef), (undef), rfl, (by have h := HS.out; rw [← bits_none (sumB maj3 (ofB x0) (ofB x1)).Z (sumB maj3 (ofB x0) (ofB x1)).O] at h; exact h)⟩) (fun r1 a W hr hR => ?_)
  obtain ⟨u1_12, u1_13, u1_14, u1_15, u1_16, u1_17, u1_18, u1_24, u1_25, u1_26, u1_27, u1_28, u1_29, u1_30, u1_31, u1_32, u1_33, u1_34, u1_35, u1_36, u1_37, u1_38, u1_39, u1_40, u1_41, u1_42, u1_43, u1_44, u1_45, u1_46, u1_47, u1_48, u1_49, u1_50, u1_51, u1_52, u1_53, u1_54, u1_55, u1_56, u1_57, u1_58, u1_59, u1_60, u1_61, u1_62, u1_63, u1_64, u1_65, u1_66, u1_67, u1_68, u1_69, u1_70, u1_71, u1_72, u1_73, u1_74, u1_75, u1_76, u1_77, u1_78, u1_79, u1_80, u1_81, u1_82, u1_83, u1_84, u1_85, u1_86, u1_87, rfl, hS⟩ := hR.out
  replace HS := hid hS
  clear hS hR
  by_cases hlt1 : r1 < 64
  · -- round
    go_upto_region 6 with fail
    refine lnb HS.out rfl ?_
    refine lm 0 11 rfl rfl rfl rfl ?_
    simp only [sA, sB]
    refine lv 1 (.bool true) rfl rfl (by intro x hx; go_simp; (first | done | omega | (simp; omega))) ?_
    simp only [sA, sB]
    clear HS
    refine ld fun W6 HS => ?_
    go_upto_region 8 with fail
    refine lnb HS.out rfl ?_
    refine lv 0 (.agg #[.bool false, .bool false]) rfl rfl (by intro x hx; go_simp; (first | done | exact rfl)) ?_
    simp only [sA, sB]
    refine lin_new (i := 1) rfl rfl (by rfl) [.bool false, .bool false] 60 (fun k => .pointer (some ⟨k, 0, none⟩)) [some (.bool false), some (.bool false)] (lessC_refl _) (by intro x hx; go_simp; (first | done | exact rfl)) (fun k5 => ?_)
    simp only [sA, sB, sC, sD]
    refine ls 2 7 0 [.bool false, .bool false] rfl rfl rfl (by intro x hx; obtain ⟨⟨_, z0, q0⟩, ⟨_, z1, q1⟩⟩ := hx.at2 7 0 rfl; go_simp; (first | done | rfl)) ?_
    simp only [Blk.putC, setM, sA, sB]
    clear HS
    refine ld fun W7 HS => ?_
    go_upto_region 9 with fail
    refine lnb HS.out rfl ?_
    refine lv 0 (.int .i64 0) rfl rfl (by intro x hx; go_simp; (first | done | exact rfl)) ?_
    simp only [sA, sB]
    clear HS
    refine ld fun W8 HS => ?_
    go_wp2
    refine loop_up 8 (fun k a W => Hid (∃ u2_14 u2_15 u2_16 u2_17 u2_18 u2_29 u2_30 u2_31 u2_32 u2_33 u2_34 u2_35 u2_36 u2_37 u2_38 u2_39 u2_40 u2_41 u2_42 u2_43 u2_44 u2_45 u2_46 u2_47 u2_48 u2_49 u2_50 u2_51 u2_52 u2_53 u2_54 u2_55 u2_56 u2_57 u2_58 u2_59 u2_60 u2_61 u2_62 u2_63 u2_64 u2_65 u2_66 u2_67 u2_68 u2_69 u2_70 u2_71 u2_72 u2_73 u2_74 u2_75 u2_76 u2_77 u2_78 u2_79 u2_80 u2_81 u2_82 u2_83 u2_84 u2_85 u2_86 : Value, a = Act.mk [vU x0, vU x1, .bool false, .pointer (some ⟨w.heap.size, 0, none⟩), .pointer (some ⟨w.heap.size + 1, 0, none⟩), undef, .pointer (some ⟨w.heap.size + 2, 0, none⟩), .pointer (some ⟨k1, 0, none⟩), .pointer (some ⟨k2, 0, none⟩), .pointer (some ⟨k3, 0, none⟩), .pointer (some ⟨k4, 0, none⟩), .int .i64 ((r1 : Nat) : Int), .pointer (some ⟨k5, 0, none⟩), .int .i64 ((k : Nat) : Int), u2_14, u2_15, u2_16, u2_17, u2_18, vU x0, .agg (fnV 128 (two 64 (ofB x0).Z (ofB x0).O)).toArray, vU x1, .agg (fnV 128 (two 64 (ofB x1).Z (ofB x1).O)).toArray, .agg #[.bool true, .bool false], .int .i64 ((r1 : Nat) : Int), .bool true, u1_26, u1_27, .agg #[.bool false, .bool false], u2_29, u2_30, u2_31, u2_32, u2_33, u2_34, u2_35, u2_36, u2_37, u2_38, u2_39, u2_40, u2_41, u2_42, u2_43, u2_44, u2_45, u2_46, u2_47, u2_48, u2_49, u2_50, u2_51, u2_52, u2_53, u2_54, u2_55, u2_56, u2_57, u2_58, u2_59, u2_60, u2_61, u2_62, u2_63, u2_64, u2_65, u2_66, u2_67, u2_68, u2_69, u2_70, u2_71, u2_72, u2_73, u2_74, u2_75, u2_76, u2_77, u2_78, u2_79, u2_80, u2_81, u2_82, u2_83, u2_84, u2_85, u2_86, u1_87, undef, undef].toArray [] ∧ St w [⟨w.heap.size, [some (.int .u64 (tn (x0.lo))), some (.int .u64 (tn (x0.hi)))], 24⟩, ⟨w.heap.size + 1, [some (.int .u64 (tn (x1.lo))), some (.int .u64 (tn (x1.hi)))], 24⟩, ⟨w.heap.size + 2, [some (.int .u64 0), some (.int .u64 0)], 24⟩, ⟨k1, ((fnV 128 (two 64 (ofB x0).Z (ofB x0).O)).map some), 48⟩, ⟨k2, ((fnV 128 (two 64 (ofB x1).Z (ofB x1).O)).map some), 48⟩, ⟨k3, ((fnV 128 (two 64 (upd (upto r1 (sumB maj3 (ofB x0) (ofB x1)).Z) r1 (someTo (fun p q c => !odd3 p q c) (ofB x0) (ofB x1) (cars maj3 (ofB x0) (ofB x1) r1) r1 k)) (upd (upto r1 (sumB maj3 (ofB x0) (ofB x1)).O) r1 (someTo odd3 (ofB x0) (ofB x1) (cars maj3 (ofB x0) (ofB x1) r1) r1 k)))).map some), 48⟩, ⟨k4, [some (.bool ((cars maj3 (ofB x0) (ofB x1) r1).1)), some (.bool ((cars maj3 (ofB x0) (ofB x1) r1).2))], 60⟩, ⟨k5, [some (.bool ((someTo (fun p q c => !maj3 p q c) (ofB x0) (ofB x1) (cars maj3 (ofB x0) (ofB x1) r1) r1 k))), some (.bool ((someTo maj3 (ofB x0) (ofB x1) (cars maj3 (ofB x0) (ofB x1) r1) r1 k)))], 60⟩] W)) (hid ⟨(u1_14), (u1_15), (u1_16), (u1_17), (u1_18), (u1_29), (u1_30), (u1_31), (u1_32), (u1_33), (u1_34), (u1_35), (u1_36), (u1_37), (u1_38), (u1_39), (u1_40), (u1_41), (u1_42), (u1_43), (u1_44), (u1_45), (u1_46), (u1_47), (u1_48), (u1_49), (u1_50), (u1_51), (u1_52), (u1_53), (u1_54), (u1_55), (u1_56), (u1_57), (u1_58), (u1_59), (u1_60), (u1_61), (u1_62), (u1_63), (u1_64), (u1_65), (u1_66), (u1_67), (u1_68), (u1_69), (u1_70), (u1_71), (u1_72), (u1_73), (u1_74), (u1_75), (u1_76), (u1_77), (u1_78), (u1_79), (u1_80), (u1_81), (u1_82), (u1_83), (u1_84), (u1_85), (u1_86), rfl, (by have h := HS.out; rw [← upd_false (F := (sumB maj3 (ofB x0) (ofB x1)).Z), ← upd_false (F := (sumB maj3 (ofB x0) (ofB x1)).O)] at h; exact h)⟩) (fun r2 a W hr hR => ?_)
    obtain ⟨u2_14, u2_15, u2_16, u2_17, u2_18, u2_29, u2_30, u2_31, u2_32, u2_33, u2_34, u2_35, u2_36, u2_37, u2_38, u2_39, u2_40, u2_41, u2_42, u2_43, u2_44, u2_45, u2_46, u2_47, u2_48, u2_49, u2_50, u2_51, u2_52, u2_53, u2_54, u2_55, u2_56, u2_57, u2_58, u2_59, u2_60, u2_61, u2_62, u2_63, u2_64, u2_65, u2_66, u2_67, u2_68, u2_69, u2_70, u2_71, u2_72, u2_73, u2_74, u2_75, u2_76, u2_77, u2_78, u2_79, u2_80, u2_81, u2_82, u2_83, u2_84, u2_85, u2_86, rfl, hS⟩ := hR.out
    replace HS := hid hS
    clear hS hR
    by_cases hlt2 : r2 < 8
    · have hc : r2 = 0 ∨ r2 = 1 ∨ r2 = 2 ∨ r2 = 3 ∨ r2 = 4 ∨ r2 = 5 ∨ r2 = 6 ∨ r2 = 7 := by omega
      rcases hc with rfl | rfl | rfl | rfl | rfl | rfl | rfl | rfl
      · rw [show ((0 : Nat) : Int) = 0 from rfl]
        go_upto_region 10 with fail
        refine lnb HS.out rfl ?_
        refine lm 0 13 rfl rfl rfl rfl ?_
        simp only [sA, sB]
        refine lv 1 (.bool true) rfl rfl (by intro x hx; go_simp; (first | done | exact rfl)) ?_
        simp only [sA, sB]
        clear HS
        refine ld fun W9 HS => ?_
        go_upto_region 12 with fail
        refine lnb HS.out rfl ?_
        refine lm 0 13 rfl rfl rfl rfl ?_
        simp only [sA, sB]
        refine lv 1 (.int .i64 0) rfl rfl (by intro x hx; go_simp; (first | done | exact rfl)) ?_
        simp only [sA, sB]
        refine la 2 34 rfl rfl rfl rfl ?_
        simp only [sA, sB]
        clear HS
        refine ld fun W10 HS => ?_
        go_upto_region 13 with fail
        refine lnb HS.out rfl ?_
        refine lm 0 13 rfl rfl rfl rfl ?_
        simp only [sA, sB]
        refine lv 1 (.int .i64 0) rfl rfl (by intro x hx; go_simp; (first | done | exact rfl)) ?_
        simp only [sA, sB]
        refine lv 2 (.int .i64 0) rfl rfl (by intro x hx; go_simp; (first | done | exact rfl)) ?_
        simp only [sA, sB]
        refine la 3 37 rfl rfl rfl rfl ?_
        simp only [sA, sB]
        clear HS
        refine ld fun W11 HS => ?_
        go_upto_region 14 with fail
        refine lnb HS.out rfl ?_
        refine lm 0 13 rfl rfl rfl rfl ?_
        simp only [sA, sB]
        refine lv 1 (.int .i64 0) rfl rfl (by intro x hx; go_simp; (first | done | exact rfl)) ?_
        simp only [sA, sB]
        refine la 2 39 rfl rfl rfl rfl ?_
        simp only [sA, sB]
        clear HS
        refine ld fun W12 HS => ?_
        go_upto_region 15 with fail
        refine lnb HS.out rfl ?_
        refine lv 0 (.agg (fnV 128 (two 64 (ofB x0).Z (ofB x0).O)).toArray) rfl rfl (by intro x hx; exact loadF hx 3 rfl rfl rfl (fun w => by kernel_rfl) (fun w => by kernel_rfl)) ?_
        simp only [sA, sB]
        refine lm 1 11 rfl rfl rfl rfl ?_
        simp only [sA, sB]
        refine lm 2 14 rfl rfl rfl rfl ?_
        simp only [sA, sB]
        refine lc 3 51 #[.agg (fnV 128 (two 64 (ofB x0).Z (ofB x0).O)).toArray, .int .i64 ((r1 : Nat) : Int), .int .i64 0] (.bool ((ofB x0).Z r1)) rfl rfl (by intro x hx; exact ref_may_0 (ofB x0) r1 (by omega) _) ?_
        simp only [sA, sB]
        refine lv 4 (.bool ((!((ofB x0).Z r1)))) rfl rfl (by intro x hx; go_simp; (first | done | exact rfl)) ?_
        simp only [sA, sB]
        refine lm 5 44 rfl rfl rfl rfl ?_
        simp only [sA, sB]
        refine lin_if (i := 6) (v := .agg (fnV 128 (two 64 (ofB x1).Z (ofB x1).O)).toArray) (!(!((ofB x0).Z r1))) rfl rfl (by generalize (!((ofB x0).Z r1)) = gg0; cases gg0 <;> rfl) (by intro hb; have hb105 := hid (show ((!((ofB x0).Z r1))) = false from nnb hb); intro x hx; (try simp only [hb]); (try simp only [cond_true]); exact loadF hx 4 rfl rfl rfl (fun w => by kernel_rfl) (fun w => by kernel_rfl)) ?_
        simp only [sA, sB]
        refine lin_if (i := 7) (v := .int .i64 ((r1 : Nat) : Int)) (!(!((ofB x0).Z r1))) rfl rfl (by generalize (!((ofB x0).Z r1)) = gg0; cases gg0 <;> rfl) (by intro hb; have hb106 := hid (show ((!((ofB x0).Z r1))) = false from nnb hb); intro x hx; (try simp only [hb]); (try simp only [cond_true]); go_simp; (first | done | exact rfl)) ?_
        simp only [sA, sB]
        refine lin_if (i := 8) (v := .int .i64 0) (!(!((ofB x0).Z r1))) rfl rfl (by generalize (!((ofB x0).Z r1)) = gg0; cases gg0 <;> rfl) (by intro hb; have hb107 := hid (show ((!((ofB x0).Z r1))) = false from nnb hb); intro x hx; (try simp only [hb]); (try simp only [cond_true]); go_simp; (first | done | exact rfl)) ?_
        simp only [sA, sB]
        refine lin_if_call (i := 9) (f := 51) (args := #[.agg (fnV 128 (two 64 (ofB x1).Z (ofB x1).O)).toArray, .int .i64 ((r1 : Nat) : Int), .int .i64 0]) (v := .bool ((ofB x1).Z r1)) (!(!((ofB x0).Z r1))) (st_ups _ _) rfl rfl (by generalize (!((ofB x0).Z r1)) = gg0; cases gg0 <;> rfl) (by intro hb; have hb108 := hid (show ((!((ofB x0).Z r1))) = false from nnb hb); intro x hx; (try simp only [hb]); (try simp only [cond_true]); kernel_rfl) (by intro hb; have hb108 := hid (show ((!((ofB x0).Z r1))) = false from nnb hb); intro x hx; exact ref_may_0 (ofB x1) r1 (by omega) _) ?_
        simp only [sA, sB]
        refine lin_if (i := 10) (v := .bool ((!((ofB x1).Z r1)))) (!(!((ofB x0).Z r1))) rfl rfl (by generalize (!((ofB x0).Z r1)) = gg0; cases gg0 <;> rfl) (by intro hb; have hb109 := hid (show ((!((ofB x0).Z r1))) = false from nnb hb); intro x hx; (try simp only [hb]); (try simp only [cond_true]); go_simp; (first | done | exact rfl)) ?_
        simp only [sA, sB]
        refine lv 11 (.bool ((bif (!((ofB x0).Z r1)) then true else (!((ofB x1).Z r1))))) rfl rfl (by intro x hx; (cases hq : ((!((ofB x0).Z r1))) <;> first | rfl | (simp only [hq]; rfl) | simp [hq])) ?_
        simp only [sA, sB]
        refine lm 12 51 rfl rfl rfl rfl ?_
        simp only [sA, sB]
        refine lin_if (i := 13) (v := .int .i64 0) (!(bif (!((ofB x0).Z r1)) then true else (!((ofB x1).Z r1)))) rfl rfl (by generalize (bif (!((ofB x0).Z r1)) then true else (!((ofB x1).Z r1))) = gg0; cases gg0 <;> rfl) (by intro hb; have hb110 := hid (show ((bif (!((ofB x0).Z r1)) then true else (!((ofB x1).Z r1)))) = false from nnb hb); intro x hx; (try simp only [hb]); (try simp only [cond_true]); go_simp; (first | done | exact rfl)) ?_
        simp only [sA, sB]
        refine lin_if (i := 14) (v := .pointer (some ⟨k4, 0, none⟩)) (!(bif (!((ofB x0).Z r1)) then true else (!((ofB x1).Z r1)))) rfl rfl (by generalize (bif (!((ofB x0).Z r1)) then true else (!((ofB x1).Z r1))) = gg0; cases gg0 <;> rfl) (by intro hb; have hb111 := hid (show ((bif (!((ofB x0).Z r1)) then true else (!((ofB x1).Z r1)))) = false from nnb hb); intro x hx; (try simp only [hb]); (try simp only [cond_true]); go_simp; (first | done | exact rfl)) ?_
        simp only [sA, sB]
        refine lin_if (i := 15) (v := .bool ((cars maj3 (ofB x0) (ofB x1) r1).1)) (!(bif (!((ofB x0).Z r1)) then true else (!((ofB x1).Z r1)))) rfl rfl (by generalize (bif (!((ofB x0).Z r1)) then true else (!((ofB x1).Z r1))) = gg0; cases gg0 <;> rfl) (by intro hb; have hb112 := hid (show ((bif (!((ofB x0).Z r1)) then true else (!((ofB x1).Z r1)))) = false from nnb hb); intro x hx; (try simp only [hb]); (try simp only [cond_true]); have f0 := hx.load 6 0 rfl rfl; go_simp; (first | done | exact rfl)) ?_
        simp only [sA, sB]
        refine lin_if (i := 16) (v := .bool ((!((cars maj3 (ofB x0) (ofB x1) r1).1)))) (!(bif (!((ofB x0).Z r1)) then true else (!((ofB x1).Z r1)))) rfl rfl (by generalize (bif (!((ofB x0).Z r1)) then true else (!((ofB x1).Z r1))) = gg0; cases gg0 <;> rfl) (by intro hb; have hb113 := hid (show ((bif (!((ofB x0).Z r1)) then true else (!((ofB x1).Z r1)))) = false from nnb hb); intro x hx; (try simp only [hb]); (try simp only [cond_true]); go_simp; (first | done | exact rfl)) ?_
        simp only [sA, sB]
        refine lv 17 (.bool ((bif (bif (!((ofB x0).Z r1)) then true else (!((ofB x1).Z r1))) then true else (!((cars maj3 (ofB x0) (ofB x1) r1).1))))) rfl rfl (by intro x hx; (cases hq : ((bif (!((ofB x0).Z r1)) then true else (!((ofB x1).Z r1)))) <;> first | rfl | (simp only [hq]; rfl) | simp [hq])) ?_
        simp only [sA, sB]
        clear HS
        refine ld fun W13 HS => ?_
        cases h1 : ((bif (bif (!((ofB x0).Z r1)) then true else (!((ofB x1).Z r1))) then true else (!((cars maj3 (ofB x0) (ofB x1) r1).1))))
        ·replace h1 := hid h1
         go_upto_region 16 with fail
         refine lnb HS.out rfl ?_
         refine lm 0 14 rfl rfl rfl rfl ?_
         simp only [sA, sB]
         refine lm 1 15 rfl rfl rfl rfl ?_
         simp only [sA, sB]
         refine lv 2 (.int .i64 0) rfl rfl (by intro x hx; go_simp; (first | done | exact rfl)) ?_
         simp only [sA, sB]
         refine lm 3 16 rfl rfl rfl rfl ?_
         simp only [sA, sB]
         refine lv 4 (.int .i64 0) rfl rfl (by intro x hx; go_simp; (first | done | exact rfl)) ?_
         simp only [sA, sB]
         refine la 5 62 rfl rfl rfl rfl ?_
         simp only [sA, sB]
         clear HS
         refine ld fun W14 HS => ?_
         go_upto_region 17 with fail
         refine lnb HS.out rfl ?_
         refine lm 0 2 rfl rfl rfl rfl ?_
         simp only [sA, sB]
         clear HS
         refine ld fun W15 HS => ?_
         go_upto_region 19 with fail
         refine lnb HS.out rfl ?_
         refine lm 0 17 rfl rfl rfl rfl ?_
         simp only [sA, sB]
         refine lv 1 (.int .i64 0) rfl rfl (by intro x hx; go_simp; (first | done | exact rfl)) ?_
         simp only [sA, sB]
         refine lv 2 (.bool false) rfl rfl (by intro x hx; go_simp; (first | done | exact rfl)) ?_
         simp only [sA, sB]
         clear HS
         refine ld fun W16 HS => ?_
         go_upto_region 21 with fail
         refine lnb HS.out rfl ?_
         refine lm 0 11 rfl rfl rfl rfl ?_
         simp only [sA, sB]
         refine lv 1 (.pointer (some ⟨k3, 0, none⟩)) rfl rfl (by intro x hx; go_simp; (first | done | exact rfl)) ?_
         simp only [sA, sB]
         refine lv 2 (.pointer (some ⟨k3, r1, none⟩)) rfl rfl (by intro x hx; go_simp; first | (rw [if_pos (by omega)]; done) | (rw [if_pos (by omega)]; rfl) | (intro hq; exfalso; omega) | (simp; omega)) ?_
         simp only [sA, sB]
         refine lin_store (i := 3) (St w [⟨w.heap.size, [some (.int .u64 (tn (x0.lo))), some (.int .u64 (tn (x0.hi)))], 24⟩, ⟨w.heap.size + 1, [some (.int .u64 (tn (x1.lo))), some (.int .u64 (tn (x1.hi)))], 24⟩, ⟨w.heap.size + 2, [some (.int .u64 0), some (.int .u64 0)], 24⟩, ⟨k1, ((fnV 128 (two 64 (ofB x0).Z (ofB x0).O)).map some), 48⟩, ⟨k2, ((fnV 128 (two 64 (ofB x1).Z (ofB x1).O)).map some), 48⟩, ⟨k3, ((fnV 128 (upd (two 64 (upd (upto r1 (sumB maj3 (ofB x0) (ofB x1)).Z) r1 (someTo (fun p q c => !odd3 p q c) (ofB x0) (ofB x1) (cars maj3 (ofB x0) (ofB x1) r1) r1 0)) (upd (upto r1 (sumB maj3 (ofB x0) (ofB x1)).O) r1 (someTo odd3 (ofB x0) (ofB x1) (cars maj3 (ofB x0) (ofB x1) r1) r1 0))) r1 true)).map some), 48⟩, ⟨k4, [some (.bool ((cars maj3 (ofB x0) (ofB x1) r1).1)), some (.bool ((cars maj3 (ofB x0) (ofB x1) r1).2))], 60⟩, ⟨k5, [some (.bool ((someTo (fun p q c => !maj3 p q c) (ofB x0) (ofB x1) (cars maj3 (ofB x0) (ofB x1) r1) r1 0))), some (.bool ((someTo maj3 (ofB x0) (ofB x1) (cars maj3 (ofB x0) (ofB x1) r1) r1 0)))], 60⟩]) rfl rfl (by rfl) (fun x => x.setCell ⟨k3, r1, none⟩ (.bool true)) (by intro x hx; have z0 := hx.fn 5 (r1) rfl (by omega); have q0 := hx.soft 5 (r1) rfl; go_simp; (first | done | rfl)) (fun x hx => hx.fnset 5 (r1) true rfl) ?_
         clear HS
         refine ld fun W17 HS => ?_
         go_upto_region 22 with fail
         refine lnb HS.out rfl ?_
         refine lm 0 17 rfl rfl rfl rfl ?_
         simp only [sA, sB]
         refine lv 1 (.bool false) rfl rfl (by intro x hx; go_simp; (first | done | exact rfl)) ?_
         simp only [sA, sB]
         refine la 2 80 rfl rfl rfl rfl ?_
         simp only [sA, sB]
         clear HS
         refine ld fun W18 HS => ?_
         go_upto_region 23 with fail
         refine lnb HS.out rfl ?_
         refine lm 0 2 rfl rfl rfl rfl ?_
         simp only [sA, sB]
         clear HS
         refine ld fun W19 HS => ?_
         go_upto_region 25 with fail
         refine lnb HS.out rfl ?_
         refine lm 0 18 rfl rfl rfl rfl ?_
         simp only [sA, sB]
         clear HS
         refine ld fun W20 HS => ?_
         go_upto_region 27 with fail
         refine lnb HS.out rfl ?_
         refine lv 0 (.pointer (some ⟨k5, 0, none⟩)) rfl rfl (by intro x hx; go_simp; (first | done | exact rfl)) ?_
         simp only [sA, sB]
         refine ls 1 7 0 [.bool true] rfl rfl rfl (by intro x hx; obtain ⟨_, z0, q0⟩ := hx.at1 7 0 rfl; go_simp; (first | done | rfl)) ?_
         simp only [Blk.putC, setM, sA, sB]
         clear HS
         refine ld fun W21 HS => ?_
         go_upto_region 11 with fail
         refine lnb HS.out rfl ?_
         refine lm 0 13 rfl rfl rfl rfl ?_
         simp only [sA, sB]
         refine lv 1 (.int .i64 1) rfl rfl (by intro x hx; go_simp; (first | done | exact rfl)) ?_
         simp only [sA, sB]
         refine la 2 32 rfl rfl rfl rfl ?_
         simp only [sA, sB]
         clear HS
         refine ld fun W22 HS => ?_
         go_wp2
         exact ⟨hlt2, hid ⟨_, _, _, _, _, _, _, _, _, _, _, _, _, _, _, _, _, _, _, _, _, _, _, _, _, _, _, _, _, _, _, _, _, _, _, _, _, _, _, _, _, _, _, _, _, _, _, _, _, _, _, _, _, _, _, _, _, _, _, _, _, _, _, rfl, (by have h := HS.out; rw [upd_lo (by omega), upd_upd] at h; rw [to_true (f := (fun p q c => !odd3 p q c)) (x := (ofB x0)) (y := (ofB x1)) (c := (cars maj3 (ofB x0) (ofB x1) r1)) (r := r1) (k := 0) ((turn_yes (f := (fun p q c => !odd3 p q c)) (p := false) (q := false) (c := false) h1.out).trans rfl), to_same (f := odd3) (x := (ofB x0)) (y := (ofB x1)) (c := (cars maj3 (ofB x0) (ofB x1) r1)) (r := r1) (k := 0) ((turn_yes (f := odd3) (p := false) (q := false) (c := false) h1.out).trans rfl), to_true (f := (fun p q c => !maj3 p q c)) (x := (ofB x0)) (y := (ofB x1)) (c := (cars maj3 (ofB x0) (ofB x1) r1)) (r := r1) (k := 0) ((turn_yes (f := (fun p q c => !maj3 p q c)) (p := false) (q := false) (c := false) h1.out).trans rfl), to_same (f := maj3) (x := (ofB x0)) (y := (ofB x1)) (c := (cars maj3 (ofB x0) (ofB x1) r1)) (r := r1) (k := 0) ((turn_yes (f := maj3) (p := false) (q := false) (c := false) h1.out).trans rfl)]; exact h)⟩⟩
        ·replace h1 := hid h1
         go_upto_region 11 with fail
         refine lnb HS.out rfl ?_
         refine lm 0 13 rfl rfl rfl rfl ?_
         simp only [sA, sB]
         refine lv 1 (.int .i64 1) rfl rfl (by intro x hx; go_simp; (first | done | exact rfl)) ?_
         simp only [sA, sB]
         refine la 2 32 rfl rfl rfl rfl ?_
         simp only [sA, sB]
         clear HS
         refine ld fun W14 HS => ?_
         go_wp2
         exact ⟨hlt2, hid ⟨_, _, _, _, _, _, _, _, _, _, _, _, _, _, _, _, _, _, _, _, _, _, _, _, _, _, _, _, _, _, _, _, _, _, _, _, _, _, _, _, _, _, _, _, _, _, _, _, _, _, _, _, _, _, _, _, _, _, _, _, _, _, _, rfl, (by rw [to_same (f := (fun p q c => !odd3 p q c)) (x := (ofB x0)) (y := (ofB x1)) (c := (cars maj3 (ofB x0) (ofB x1) r1)) (r := r1) (k := 0) (turn_no (f := (fun p q c => !odd3 p q c)) (p := false) (q := false) (c := false) h1.out), to_same (f := odd3) (x := (ofB x0)) (y := (ofB x1)) (c := (cars maj3 (ofB x0) (ofB x1) r1)) (r := r1) (k := 0) (turn_no (f := odd3) (p := false) (q := false) (c := false) h1.out), to_same (f := (fun p q c => !maj3 p q c)) (x := (ofB x0)) (y := (ofB x1)) (c := (cars maj3 (ofB x0) (ofB x1) r1)) (r := r1) (k := 0) (turn_no (f := (fun p q c => !maj3 p q c)) (p := false) (q := false) (c := false) h1.out), to_same (f := maj3) (x := (ofB x0)) (y := (ofB x1)) (c := (cars maj3 (ofB x0) (ofB x1) r1)) (r := r1) (k := 0) (turn_no (f := maj3) (p := false) (q := false) (c := false) h1.out)]; exact HS.out)⟩⟩
      · rw [show ((1 : Nat) : Int) = 1 from rfl]
        go_upto_region 10 with fail
        refine lnb HS.out rfl ?_
        refine lm 0 13 rfl rfl rfl rfl ?_
        simp only [sA, sB]
        refine lv 1 (.bool true) rfl rfl (by intro x hx; go_simp; (first | done | exact rfl)) ?_
        simp only [sA, sB]
        clear HS
        refine ld fun W9 HS => ?_
        go_upto_region 12 with fail
        refine lnb HS.out rfl ?_
        refine lm 0 13 rfl rfl rfl rfl ?_
        simp only [sA, sB]
        refine lv 1 (.int .i64 1) rfl rfl (by intro x hx; go_simp; (first | done | exact rfl)) ?_
        simp only [sA, sB]
        refine la 2 34 rfl rfl rfl rfl ?_
        simp only [sA, sB]
        clear HS
        refine ld fun W10 HS => ?_
        go_upto_region 13 with fail
        refine lnb HS.out rfl ?_
        refine lm 0 13 rfl rfl rfl rfl ?_
        simp only [sA, sB]
        refine lv 1 (.int .i64 0) rfl rfl (by intro x hx; go_simp; (first | done | exact rfl)) ?_
        simp only [sA, sB]
        refine lv 2 (.int .i64 0) rfl rfl (by intro x hx; go_simp; (first | done | exact rfl)) ?_
        simp only [sA, sB]
        refine la 3 37 rfl rfl rfl rfl ?_
        simp only [sA, sB]
        clear HS
        refine ld fun W11 HS => ?_
        go_upto_region 14 with fail
        refine lnb HS.out rfl ?_
        refine lm 0 13 rfl rfl rfl rfl ?_
        simp only [sA, sB]
        refine lv 1 (.int .i64 0) rfl rfl (by intro x hx; go_simp; (first | done | exact rfl)) ?_
        simp only [sA, sB]
        refine la 2 39 rfl rfl rfl rfl ?_
        simp only [sA, sB]
        clear HS
        refine ld fun W12 HS => ?_
        go_upto_region 15 with fail
        refine lnb HS.out rfl ?_
        refine lv 0 (.agg (fnV 128 (two 64 (ofB x0).Z (ofB x0).O)).toArray) rfl rfl (by intro x hx; exact loadF hx 3 rfl rfl rfl (fun w => by kernel_rfl) (fun w => by kernel_rfl)) ?_
        simp only [sA, sB]
        refine lm 1 11 rfl rfl rfl rfl ?_
        simp only [sA, sB]
        refine lm 2 14 rfl rfl rfl rfl ?_
        simp only [sA, sB]
        refine lc 3 51 #[.agg (fnV 128 (two 64 (ofB x0).Z (ofB x0).O)).toArray, .int .i64 ((r1 : Nat) : Int), .int .i64 1] (.bool ((ofB x0).O r1)) rfl rfl (by intro x hx; exact ref_may_1 (ofB x0) r1 (by omega) _) ?_
        simp only [sA, sB]
        refine lv 4 (.bool ((!((ofB x0).O r1)))) rfl rfl (by intro x hx; go_simp; (first | done | exact rfl)) ?_
        simp only [sA, sB]
        refine lm 5 44 rfl rfl rfl rfl ?_
        simp only [sA, sB]
        refine lin_if (i := 6) (v := .agg (fnV 128 (two 64 (ofB x1).Z (ofB x1).O)).toArray) (!(!((ofB x0).O r1))) rfl rfl (by generalize (!((ofB x0).O r1)) = gg0; cases gg0 <;> rfl) (by intro hb; have hb114 := hid (show ((!((ofB x0).O r1))) = false from nnb hb); intro x hx; (try simp only [hb]); (try simp only [cond_true]); exact loadF hx 4 rfl rfl rfl (fun w => by kernel_rfl) (fun w => by kernel_rfl)) ?_
        simp only [sA, sB]
        refine lin_if (i := 7) (v := .int .i64 ((r1 : Nat) : Int)) (!(!((ofB x0).O r1))) rfl rfl (by generalize (!((ofB x0).O r1)) = gg0; cases gg0 <;> rfl) (by intro hb; have hb115 := hid (show ((!((ofB x0).O r1))) = false from nnb hb); intro x hx; (try simp only [hb]); (try simp only [cond_true]); go_simp; (first | done | exact rfl)) ?_
        simp only [sA, sB]
        refine lin_if (i := 8) (v := .int .i64 0) (!(!((ofB x0).O r1))) rfl rfl (by generalize (!((ofB x0).O r1)) = gg0; cases gg0 <;> rfl) (by intro hb; have hb116 := hid (show ((!((ofB x0).O r1))) = false from nnb hb); intro x hx; (try simp only [hb]); (try simp only [cond_true]); go_simp; (first | done | exact rfl)) ?_
        simp only [sA, sB]
        refine lin_if_call (i := 9) (f := 51) (args := #[.agg (fnV 128 (two 64 (ofB x1).Z (ofB x1).O)).toArray, .int .i64 ((r1 : Nat) : Int), .int .i64 0]) (v := .bool ((ofB x1).Z r1)) (!(!((ofB x0).O r1))) (st_ups _ _) rfl rfl (by generalize (!((ofB x0).O r1)) = gg0; cases gg0 <;> rfl) (by intro hb; have hb117 := hid (show ((!((ofB x0).O r1))) = false from nnb hb); intro x hx; (try simp only [hb]); (try simp only [cond_true]); kernel_rfl) (by intro hb; have hb117 := hid (show ((!((ofB x0).O r1))) = false from nnb hb); intro x hx; exact ref_may_0 (ofB x1) r1 (by omega) _) ?_
        simp only [sA, sB]
        refine lin_if (i := 10) (v := .bool ((!((ofB x1).Z r1)))) (!(!((ofB x0).O r1))) rfl rfl (by generalize (!((ofB x0).O r1)) = gg0; cases gg0 <;> rfl) (by intro hb; have hb118 := hid (show ((!((ofB x0).O r1))) = false from nnb hb); intro x hx; (try simp only [hb]); (try simp only [cond_true]); go_simp; (first | done | exact rfl)) ?_
        simp only [sA, sB]
        refine lv 11 (.bool ((bif (!((ofB x0).O r1)) then true else (!((ofB x1).Z r1))))) rfl rfl (by intro x hx; (cases hq : ((!((ofB x0).O r1))) <;> first | rfl | (simp only [hq]; rfl) | simp [hq])) ?_
        simp only [sA, sB]
        refine lm 12 51 rfl rfl rfl rfl ?_
        simp only [sA, sB]
        refine lin_if (i := 13) (v := .int .i64 0) (!(bif (!((ofB x0).O r1)) then true else (!((ofB x1).Z r1)))) rfl rfl (by generalize (bif (!((ofB x0).O r1)) then true else (!((ofB x1).Z r1))) = gg0; cases gg0 <;> rfl) (by intro hb; have hb119 := hid (show ((bif (!((ofB x0).O r1)) then true else (!((ofB x1).Z r1)))) = false from nnb hb); intro x hx; (try simp only [hb]); (try simp only [cond_true]); go_simp; (first | done | exact rfl)) ?_
        simp only [sA, sB]
        refine lin_if (i := 14) (v := .pointer (some ⟨k4, 0, none⟩)) (!(bif (!((ofB x0).O r1)) then true else (!((ofB x1).Z r1)))) rfl rfl (by generalize (bif (!((ofB x0).O r1)) then true else (!((ofB x1).Z r1))) = gg0; cases gg0 <;> rfl) (by intro hb; have hb120 := hid (show ((bif (!((ofB x0).O r1)) then true else (!((ofB x1).Z r1)))) = false from nnb hb); intro x hx; (try simp only [hb]); (try simp only [cond_true]); go_simp; (first | done | exact rfl)) ?_
        simp only [sA, sB]
        refine lin_if (i := 15) (v := .bool ((cars maj3 (ofB x0) (ofB x1) r1).1)) (!(bif (!((ofB x0).O r1)) then true else (!((ofB x1).Z r1)))) rfl rfl (by generalize (bif (!((ofB x0).O r1)) then true else (!((ofB x1).Z r1))) = gg0; cases gg0 <;> rfl) (by intro hb; have hb121 := hid (show ((bif (!((ofB x0).O r1)) then true else (!((ofB x1).Z r1)))) = false from nnb hb); intro x hx; (try simp only [hb]); (try simp only [cond_true]); have f0 := hx.load 6 0 rfl rfl; go_simp; (first | done | exact rfl)) ?_
        simp only [sA, sB]
        refine lin_if (i := 16) (v := .bool ((!((cars maj3 (ofB x0) (ofB x1) r1).1)))) (!(bif (!((ofB x0).O r1)) then true else (!((ofB x1).Z r1)))) rfl rfl (by generalize (bif (!((ofB x0).O r1)) then true else (!((ofB x1).Z r1))) = gg0; cases gg0 <;> rfl) (by intro hb; have hb122 := hid (show ((bif (!((ofB x0).O r1)) then true else (!((ofB x1).Z r1)))) = false from nnb hb); intro x hx; (try simp only [hb]); (try simp only [cond_true]); go_simp; (first | done | exact rfl)) ?_
        simp only [sA, sB]
        refine lv 17 (.bool ((bif (bif (!((ofB x0).O r1)) then true else (!((ofB x1).Z r1))) then true else (!((cars maj3 (ofB x0) (ofB x1) r1).1))))) rfl rfl (by intro x hx; (cases hq : ((bif (!((ofB x0).O r1)) then true else (!((ofB x1).Z r1)))) <;> first | rfl | (simp only [hq]; rfl) | simp [hq])) ?_
        simp only [sA, sB]
        clear HS
        refine ld fun W13 HS => ?_
        cases h1 : ((bif (bif (!((ofB x0).O r1)) then true else (!((ofB x1).Z r1))) then true else (!((cars maj3 (ofB x0) (ofB x1) r1).1))))
        ·replace h1 := hid h1
         go_upto_region 16 with fail
         refine lnb HS.out rfl ?_
         refine lm 0 14 rfl rfl rfl rfl ?_
         simp only [sA, sB]
         refine lm 1 15 rfl rfl rfl rfl ?_
         simp only [sA, sB]
         refine lv 2 (.int .i64 1) rfl rfl (by intro x hx; go_simp; (first | done | exact rfl)) ?_
         simp only [sA, sB]
         refine lm 3 16 rfl rfl rfl rfl ?_
         simp only [sA, sB]
         refine lv 4 (.int .i64 1) rfl rfl (by intro x hx; go_simp; (first | done | exact rfl)) ?_
         simp only [sA, sB]
         refine la 5 62 rfl rfl rfl rfl ?_
         simp only [sA, sB]
         clear HS
         refine ld fun W14 HS => ?_
         go_upto_region 17 with fail
         refine lnb HS.out rfl ?_
         refine lm 0 2 rfl rfl rfl rfl ?_
         simp only [sA, sB]
         clear HS
         refine ld fun W15 HS => ?_
         go_upto_region 19 with fail
         refine lnb HS.out rfl ?_
         refine lm 0 17 rfl rfl rfl rfl ?_
         simp only [sA, sB]
         refine lv 1 (.int .i64 1) rfl rfl (by intro x hx; go_simp; (first | done | exact rfl)) ?_
         simp only [sA, sB]
         refine lv 2 (.bool true) rfl rfl (by intro x hx; go_simp; (first | done | exact rfl)) ?_
         simp only [sA, sB]
         clear HS
         refine ld fun W16 HS => ?_
         go_upto_region 20 with fail
         refine lnb HS.out rfl ?_
         refine lm 0 11 rfl rfl rfl rfl ?_
         simp only [sA, sB]
         refine lv 1 (.pointer (some ⟨k3, 64, none⟩)) rfl rfl (by intro x hx; go_simp; (first | done | exact rfl)) ?_
         simp only [sA, sB]
         refine lv 2 (.pointer (some ⟨k3, 64 + r1, none⟩)) rfl rfl (by intro x hx; go_simp; first | (rw [if_pos (by omega)]; done) | (rw [if_pos (by omega)]; rfl) | (intro hq; exfalso; omega) | (simp; omega)) ?_
         simp only [sA, sB]
         refine lin_store (i := 3) (St w [⟨w.heap.size, [some (.int .u64 (tn (x0.lo))), some (.int .u64 (tn (x0.hi)))], 24⟩, ⟨w.heap.size + 1, [some (.int .u64 (tn (x1.lo))), some (.int .u64 (tn (x1.hi)))], 24⟩, ⟨w.heap.size + 2, [some (.int .u64 0), some (.int .u64 0)], 24⟩, ⟨k1, ((fnV 128 (two 64 (ofB x0).Z (ofB x0).O)).map some), 48⟩, ⟨k2, ((fnV 128 (two 64 (ofB x1).Z (ofB x1).O)).map some), 48⟩, ⟨k3, ((fnV 128 (upd (two 64 (upd (upto r1 (sumB maj3 (ofB x0) (ofB x1)).Z) r1 (someTo (fun p q c => !odd3 p q c) (ofB x0) (ofB x1) (cars maj3 (ofB x0) (ofB x1) r1) r1 1)) (upd (upto r1 (sumB maj3 (ofB x0) (ofB x1)).O) r1 (someTo odd3 (ofB x0) (ofB x1) (cars maj3 (ofB x0) (ofB x1) r1) r1 1))) (64 + r1) true)).map some), 48⟩, ⟨k4, [some (.bool ((cars maj3 (ofB x0) (ofB x1) r1).1)), some (.bool ((cars maj3 (ofB x0) (ofB x1) r1).2))], 60⟩, ⟨k5, [some (.bool ((someTo (fun p q c => !maj3 p q c) (ofB x0) (ofB x1) (cars maj3 (ofB x0) (ofB x1) r1) r1 1))), some (.bool ((someTo maj3 (ofB x0) (ofB x1) (cars maj3 (ofB x0) (ofB x1) r1) r1 1)))], 60⟩]) rfl rfl (by rfl) (fun x => x.setCell ⟨k3, 64 + r1, none⟩ (.bool true)) (by intro x hx; have z0 := hx.fn 5 (64 + r1) rfl (by omega); have q0 := hx.soft 5 (64 + r1) rfl; go_simp; (first | done | rfl)) (fun x hx => hx.fnset 5 (64 + r1) true rfl) ?_
         clear HS
         refine ld fun W17 HS => ?_
         go_upto_region 22 with fail
         refine lnb HS.out rfl ?_
         refine lm 0 17 rfl rfl rfl rfl ?_
         simp only [sA, sB]
         refine lv 1 (.bool false) rfl rfl (by intro x hx; go_simp; (first | done | exact rfl)) ?_
         simp only [sA, sB]
         refine la 2 80 rfl rfl rfl rfl ?_
         simp only [sA, sB]
         clear HS
         refine ld fun W18 HS => ?_
         go_upto_region 23 with fail
         refine lnb HS.out rfl ?_
         refine lm 0 2 rfl rfl rfl rfl ?_
         simp only [sA, sB]
         clear HS
         refine ld fun W19 HS => ?_
         go_upto_region 25 with fail
         refine lnb HS.out rfl ?_
         refine lm 0 18 rfl rfl rfl rfl ?_
         simp only [sA, sB]
         clear HS
         refine ld fun W20 HS => ?_
         go_upto_region 27 with fail
         refine lnb HS.out rfl ?_
         refine lv 0 (.pointer (some ⟨k5, 0, none⟩)) rfl rfl (by intro x hx; go_simp; (first | done | exact rfl)) ?_
         simp only [sA, sB]
         refine ls 1 7 0 [.bool true] rfl rfl rfl (by intro x hx; obtain ⟨_, z0, q0⟩ := hx.at1 7 0 rfl; go_simp; (first | done | rfl)) ?_
         simp only [Blk.putC, setM, sA, sB]
         clear HS
         refine ld fun W21 HS => ?_
         go_upto_region 11 with fail
         refine lnb HS.out rfl ?_
         refine lm 0 13 rfl rfl rfl rfl ?_
         simp only [sA, sB]
         refine lv 1 (.int .i64 2) rfl rfl (by intro x hx; go_simp; (first | done | exact rfl)) ?_
         simp only [sA, sB]
         refine la 2 32 rfl rfl rfl rfl ?_
         simp only [sA, sB]
         clear HS
         refine ld fun W22 HS => ?_
         go_wp2
         exact ⟨hlt2, hid ⟨_, _, _, _, _, _, _, _, _, _, _, _, _, _, _, _, _, _, _, _, _, _, _, _, _, _, _, _, _, _, _, _, _, _, _, _, _, _, _, _, _, _, _, _, _, _, _, _, _, _, _, _, _, _, _, _, _, _, _, _, _, _, _, rfl, (by have h := HS.out; rw [upd_hi, upd_upd] at h; rw [to_same (f := (fun p q c => !odd3 p q c)) (x := (ofB x0)) (y := (ofB x1)) (c := (cars maj3 (ofB x0) (ofB x1) r1)) (r := r1) (k := 1) ((turn_yes (f := (fun p q c => !odd3 p q c)) (p := true) (q := false) (c := false) h1.out).trans rfl), to_true (f := odd3) (x := (ofB x0)) (y := (ofB x1)) (c := (cars maj3 (ofB x0) (ofB x1) r1)) (r := r1) (k := 1) ((turn_yes (f := odd3) (p := true) (q := false) (c := false) h1.out).trans rfl), to_true (f := (fun p q c => !maj3 p q c)) (x := (ofB x0)) (y := (ofB x1)) (c := (cars maj3 (ofB x0) (ofB x1) r1)) (r := r1) (k := 1) ((turn_yes (f := (fun p q c => !maj3 p q c)) (p := true) (q := false) (c := false) h1.out).trans rfl), to_same (f := maj3) (x := (ofB x0)) (y := (ofB x1)) (c := (cars maj3 (ofB x0) (ofB x1) r1)) (r := r1) (k := 1) ((turn_yes (f := maj3) (p := true) (q := false) (c := false) h1.out).trans rfl)]; exact h)⟩⟩
        ·replace h1 := hid h1
         go_upto_region 11 with fail
         refine lnb HS.out rfl ?_
         refine lm 0 13 rfl rfl rfl rfl ?_
         simp only [sA, sB]
         refine lv 1 (.int .i64 2) rfl rfl (by intro x hx; go_simp; (first | done | exact rfl)) ?_
         simp only [sA, sB]
         refine la 2 32 rfl rfl rfl rfl ?_
         simp only [sA, sB]
         clear HS
         refine ld fun W14 HS => ?_
         go_wp2
         exact ⟨hlt2, hid ⟨_, _, _, _, _, _, _, _, _, _, _, _, _, _, _, _, _, _, _, _, _, _, _, _, _, _, _, _, _, _, _, _, _, _, _, _, _, _, _, _, _, _, _, _, _, _, _, _, _, _, _, _, _, _, _, _, _, _, _, _, _, _, _, rfl, (by rw [to_same (f := (fun p q c => !odd3 p q c)) (x := (ofB x0)) (y := (ofB x1)) (c := (cars maj3 (ofB x0) (ofB x1) r1)) (r := r1) (k := 1) (turn_no (f := (fun p q c => !odd3 p q c)) (p := true) (q := false) (c := false) h1.out), to_same (f := odd3) (x := (ofB x0)) (y := (ofB x1)) (c := (cars maj3 (ofB x0) (ofB x1) r1)) (r := r1) (k := 1) (turn_no (f := odd3) (p := true) (q := false) (c := false) h1.out), to_same (f := (fun p q c => !maj3 p q c)) (x := (ofB x0)) (y := (ofB x1)) (c := (cars maj3 (ofB x0) (ofB x1) r1)) (r := r1) (k := 1) (turn_no (f := (fun p q c => !maj3 p q c)) (p := true) (q := false) (c := false) h1.out), to_same (f := maj3) (x := (ofB x0)) (y := (ofB x1)) (c := (cars maj3 (ofB x0) (ofB x1) r1)) (r := r1) (k := 1) (turn_no (f := maj3) (p := true) (q := false) (c := false) h1.out)]; exact HS.out)⟩⟩
      · rw [show ((2 : Nat) : Int) = 2 from rfl]
        go_upto_region 10 with fail
        refine lnb HS.out rfl ?_
        refine lm 0 13 rfl rfl rfl rfl ?_
        simp only [sA, sB]
        refine lv 1 (.bool true) rfl rfl (by intro x hx; go_simp; (first | done | exact rfl)) ?_
        simp only [sA, sB]
        clear HS
        refine ld fun W9 HS => ?_
        go_upto_region 12 with fail
        refine lnb HS.out rfl ?_
        refine lm 0 13 rfl rfl rfl rfl ?_
        simp only [sA, sB]
        refine lv 1 (.int .i64 0) rfl rfl (by intro x hx; go_simp; (first | done | exact rfl)) ?_
        simp only [sA, sB]
        refine la 2 34 rfl rfl rfl rfl ?_
        simp only [sA, sB]
        clear HS
        refine ld fun W10 HS => ?_
        go_upto_region 13 with fail
        refine lnb HS.out rfl ?_
        refine lm 0 13 rfl rfl rfl rfl ?_
        simp only [sA, sB]
        refine lv 1 (.int .i64 1) rfl rfl (by intro x hx; go_simp; (first | done | exact rfl)) ?_
        simp only [sA, sB]
        refine lv 2 (.int .i64 1) rfl rfl (by intro x hx; go_simp; (first | done | exact rfl)) ?_
        simp only [sA, sB]
        refine la 3 37 rfl rfl rfl rfl ?_
        simp only [sA, sB]
        clear HS
        refine ld fun W11 HS => ?_
        go_upto_region 14 with fail
        refine lnb HS.out rfl ?_
        refine lm 0 13 rfl rfl rfl rfl ?_
        simp only [sA, sB]
        refine lv 1 (.int .i64 0) rfl rfl (by intro x hx; go_simp; (first | done | exact rfl)) ?_
        simp only [sA, sB]
        refine la 2 39 rfl rfl rfl rfl ?_
        simp only [sA, sB]
        clear HS
        refine ld fun W12 HS => ?_
        go_upto_region 15 with fail
        refine lnb HS.out rfl ?_
        refine lv 0 (.agg (fnV 128 (two 64 (ofB x0).Z (ofB x0).O)).toArray) rfl rfl (by intro x hx; exact loadF hx 3 rfl rfl rfl (fun w => by kernel_rfl) (fun w => by kernel_rfl)) ?_
        simp only [sA, sB]
        refine lm 1 11 rfl rfl rfl rfl ?_
        simp only [sA, sB]
        refine lm 2 14 rfl rfl rfl rfl ?_
        simp only [sA, sB]
        refine lc 3 51 #[.agg (fnV 128 (two 64 (ofB x0).Z (ofB x0).O)).toArray, .int .i64 ((r1 : Nat) : Int), .int .i64 0] (.bool ((ofB x0).Z r1)) rfl rfl (by intro x hx; exact ref_may_0 (ofB x0) r1 (by omega) _) ?_
        simp only [sA, sB]
        refine lv 4 (.bool ((!((ofB x0).Z r1)))) rfl rfl (by intro x hx; go_simp; (first | done | exact rfl)) ?_
        simp only [sA, sB]
        refine lm 5 44 rfl rfl rfl rfl ?_
        simp only [sA, sB]
        refine lin_if (i := 6) (v := .agg (fnV 128 (two 64 (ofB x1).Z (ofB x1).O)).toArray) (!(!((ofB x0).Z r1))) rfl rfl (by generalize (!((ofB x0).Z r1)) = gg0; cases gg0 <;> rfl) (by intro hb; have hb123 := hid (show ((!((ofB x0).Z r1))) = false from nnb hb); intro x hx; (try simp only [hb]); (try simp only [cond_true]); exact loadF hx 4 rfl rfl rfl (fun w => by kernel_rfl) (fun w => by kernel_rfl)) ?_
        simp only [sA, sB]
        refine lin_if (i := 7) (v := .int .i64 ((r1 : Nat) : Int)) (!(!((ofB x0).Z r1))) rfl rfl (by generalize (!((ofB x0).Z r1)) = gg0; cases gg0 <;> rfl) (by intro hb; have hb124 := hid (show ((!((ofB x0).Z r1))) = false from nnb hb); intro x hx; (try simp only [hb]); (try simp only [cond_true]); go_simp; (first | done | exact rfl)) ?_
        simp only [sA, sB]
        refine lin_if (i := 8) (v := .int .i64 1) (!(!((ofB x0).Z r1))) rfl rfl (by generalize (!((ofB x0).Z r1)) = gg0; cases gg0 <;> rfl) (by intro hb; have hb125 := hid (show ((!((ofB x0).Z r1))) = false from nnb hb); intro x hx; (try simp only [hb]); (try simp only [cond_true]); go_simp; (first | done | exact rfl)) ?_
        simp only [sA, sB]
        refine lin_if_call (i := 9) (f := 51) (args := #[.agg (fnV 128 (two 64 (ofB x1).Z (ofB x1).O)).toArray, .int .i64 ((r1 : Nat) : Int), .int .i64 1]) (v := .bool ((ofB x1).O r1)) (!(!((ofB x0).Z r1))) (st_ups _ _) rfl rfl (by generalize (!((ofB x0).Z r1)) = gg0; cases gg0 <;> rfl) (by intro hb; have hb126 := hid (show ((!((ofB x0).Z r1))) = false from nnb hb); intro x hx; (try simp only [hb]); (try simp only [cond_true]); kernel_rfl) (by intro hb; have hb126 := hid (show ((!((ofB x0).Z r1))) = false from nnb hb); intro x hx; exact ref_may_1 (ofB x1) r1 (by omega) _) ?_
        simp only [sA, sB]
        refine lin_if (i := 10) (v := .bool ((!((ofB x1).O r1)))) (!(!((ofB x0).Z r1))) rfl rfl (by generalize (!((ofB x0).Z r1)) = gg0; cases gg0 <;> rfl) (by intro hb; have hb127 := hid (show ((!((ofB x0).Z r1))) = false from nnb hb); intro x hx; (try simp only [hb]); (try simp only [cond_true]); go_simp; (first | done | exact rfl)) ?_
        simp only [sA, sB]
        refine lv 11 (.bool ((bif (!((ofB x0).Z r1)) then true else (!((ofB x1).O r1))))) rfl rfl (by intro x hx; (cases hq : ((!((ofB x0).Z r1))) <;> first | rfl | (simp only [hq]; rfl) | simp [hq])) ?_
        simp only [sA, sB]
        refine lm 12 51 rfl rfl rfl rfl ?_
        simp only [sA, sB]
        refine lin_if (i := 13) (v := .int .i64 0) (!(bif (!((ofB x0).Z r1)) then true else (!((ofB x1).O r1)))) rfl rfl (by generalize (bif (!((ofB x0).Z r1)) then true else (!((ofB x1).O r1))) = gg0; cases gg0 <;> rfl) (by intro hb; have hb128 := hid (show ((bif (!((ofB x0).Z r1)) then true else (!((ofB x1).O r1)))) = false from nnb hb); intro x hx; (try simp only [hb]); (try simp only [cond_true]); go_simp; (first | done | exact rfl)) ?_
        simp only [sA, sB]
        refine lin_if (i := 14) (v := .pointer (some ⟨k4, 0, none⟩)) (!(bif (!((ofB x0).Z r1)) then true else (!((ofB x1).O r1)))) rfl rfl (by generalize (bif (!((ofB x0).Z r1)) then true else (!((ofB x1).O r1))) = gg0; cases gg0 <;> rfl) (by intro hb; have hb129 := hid (show ((bif (!((ofB x0).Z r1)) then true else (!((ofB x1).O r1)))) = false from nnb hb); intro x hx; (try simp only [hb]); (try simp only [cond_true]); go_simp; (first | done | exact rfl)) ?_
        simp only [sA, sB]
        refine lin_if (i := 15) (v := .bool ((cars maj3 (ofB x0) (ofB x1) r1).1)) (!(bif (!((ofB x0).Z r1)) then true else (!((ofB x1).O r1)))) rfl rfl (by generalize (bif (!((ofB x0).Z r1)) then true else (!((ofB x1).O r1))) = gg0; cases gg0 <;> rfl) (by intro hb; have hb130 := hid (show ((bif (!((ofB x0).Z r1)) then true else (!((ofB x1).O r1)))) = false from nnb hb); intro x hx; (try simp only [hb]); (try simp only [cond_true]); have f0 := hx.load 6 0 rfl rfl; go_simp; (first | done | exact rfl)) ?_
        simp only [sA, sB]
        refine lin_if (i := 16) (v := .bool ((!((cars maj3 (ofB x0) (ofB x1) r1).1)))) (!(bif (!((ofB x0).Z r1)) then true else (!((ofB x1).O r1)))) rfl rfl (by generalize (bif (!((ofB x0).Z r1)) then true else (!((ofB x1).O r1))) = gg0; cases gg0 <;> rfl) (by intro hb; have hb131 := hid (show ((bif (!((ofB x0).Z r1)) then true else (!((ofB x1).O r1)))) = false from nnb hb); intro x hx; (try simp only [hb]); (try simp only [cond_true]); go_simp; (first | done | exact rfl)) ?_
        simp only [sA, sB]
        refine lv 17 (.bool ((bif (bif (!((ofB x0).Z r1)) then true else (!((ofB x1).O r1))) then true else (!((cars maj3 (ofB x0) (ofB x1) r1).1))))) rfl rfl (by intro x hx; (cases hq : ((bif (!((ofB x0).Z r1)) then true else (!((ofB x1).O r1)))) <;> first | rfl | (simp only [hq]; rfl) | simp [hq])) ?_
        simp only [sA, sB]
        clear HS
        refine ld fun W13 HS => ?_
        cases h1 : ((bif (bif (!((ofB x0).Z r1)) then true else (!((ofB x1).O r1))) then true else (!((cars maj3 (ofB x0) (ofB x1) r1).1))))
        ·replace h1 := hid h1
         go_upto_region 16 with fail
         refine lnb HS.out rfl ?_
         refine lm 0 14 rfl rfl rfl rfl ?_
         simp only [sA, sB]
         refine lm 1 15 rfl rfl rfl rfl ?_
         simp only [sA, sB]
         refine lv 2 (.int .i64 1) rfl rfl (by intro x hx; go_simp; (first | done | exact rfl)) ?_
         simp only [sA, sB]
         refine lm 3 16 rfl rfl rfl rfl ?_
         simp only [sA, sB]
         refine lv 4 (.int .i64 1) rfl rfl (by intro x hx; go_simp; (first | done | exact rfl)) ?_
         simp only [sA, sB]
         refine la 5 62 rfl rfl rfl rfl ?_
         simp only [sA, sB]
         clear HS
         refine ld fun W14 HS => ?_
         go_upto_region 17 with fail
         refine lnb HS.out rfl ?_
         refine lm 0 2 rfl rfl rfl rfl ?_
         simp only [sA, sB]
         clear HS
         refine ld fun W15 HS => ?_
         go_upto_region 19 with fail
         refine lnb HS.out rfl ?_
         refine lm 0 17 rfl rfl rfl rfl ?_
         simp only [sA, sB]
         refine lv 1 (.int .i64 1) rfl rfl (by intro x hx; go_simp; (first | done | exact rfl)) ?_
         simp only [sA, sB]
         refine lv 2 (.bool true) rfl rfl (by intro x hx; go_simp; (first | done | exact rfl)) ?_
         simp only [sA, sB]
         clear HS
         refine ld fun W16 HS => ?_
         go_upto_region 20 with fail
         refine lnb HS.out rfl ?_
         refine lm 0 11 rfl rfl rfl rfl ?_
         simp only [sA, sB]
         refine lv 1 (.pointer (some ⟨k3, 64, none⟩)) rfl rfl (by intro x hx; go_simp; (first | done | exact rfl)) ?_
         simp only [sA, sB]
         refine lv 2 (.pointer (some ⟨k3, 64 + r1, none⟩)) rfl rfl (by intro x hx; go_simp; first | (rw [if_pos (by omega)]; done) | (rw [if_pos (by omega)]; rfl) | (intro hq; exfalso; omega) | (simp; omega)) ?_
         simp only [sA, sB]
         refine lin_store (i := 3) (St w [⟨w.heap.size, [some (.int .u64 (tn (x0.lo))), some (.int .u64 (tn (x0.hi)))], 24⟩, ⟨w.heap.size + 1, [some (.int .u64 (tn (x1.lo))), some (.int .u64 (tn (x1.hi)))], 24⟩, ⟨w.heap.size + 2, [some (.int .u64 0), some (.int .u64 0)], 24⟩, ⟨k1, ((fnV 128 (two 64 (ofB x0).Z (ofB x0).O)).map some), 48⟩, ⟨k2, ((fnV 128 (two 64 (ofB x1).Z (ofB x1).O)).map some), 48⟩, ⟨k3, ((fnV 128 (upd (two 64 (upd (upto r1 (sumB maj3 (ofB x0) (ofB x1)).Z) r1 (someTo (fun p q c => !odd3 p q c) (ofB x0) (ofB x1) (cars maj3 (ofB x0) (ofB x1) r1) r1 2)) (upd (upto r1 (sumB maj3 (ofB x0) (ofB x1)).O) r1 (someTo odd3 (ofB x0) (ofB x1) (cars maj3 (ofB x0) (ofB x1) r1) r1 2))) (64 + r1) true)).map some), 48⟩, ⟨k4, [some (.bool ((cars maj3 (ofB x0) (ofB x1) r1).1)), some (.bool ((cars maj3 (ofB x0) (ofB x1) r1).2))], 60⟩, ⟨k5, [some (.bool ((someTo (fun p q c => !maj3 p q c) (ofB x0) (ofB x1) (cars maj3 (ofB x0) (ofB x1) r1) r1 2))), some (.bool ((someTo maj3 (ofB x0) (ofB x1) (cars maj3 (ofB x0) (ofB x1) r1) r1 2)))], 60⟩]) rfl rfl (by rfl) (fun x => x.setCell ⟨k3, 64 + r1, none⟩ (.bool true)) (by intro x hx; have z0 := hx.fn 5 (64 + r1) rfl (by omega); have q0 := hx.soft 5 (64 + r1) rfl; go_simp; (first | done | rfl)) (fun x hx => hx.fnset 5 (64 + r1) true rfl) ?_
         clear HS
         refine ld fun W17 HS => ?_
         go_upto_region 22 with fail
         refine lnb HS.out rfl ?_
         refine lm 0 17 rfl rfl rfl rfl ?_
         simp only [sA, sB]
         refine lv 1 (.bool false) rfl rfl (by intro x hx; go_simp; (first | done | exact rfl)) ?_
         simp only [sA, sB]
         refine la 2 80 rfl rfl rfl rfl ?_
         simp only [sA, sB]
         clear HS
         refine ld fun W18 HS => ?_
         go_upto_region 23 with fail
         refine lnb HS.out rfl ?_
         refine lm 0 2 rfl rfl rfl rfl ?_
         simp only [sA, sB]
         clear HS
         refine ld fun W19 HS => ?_
         go_upto_region 25 with fail
         refine lnb HS.out rfl ?_
         refine lm 0 18 rfl rfl rfl rfl ?_
         simp only [sA, sB]
         clear HS
         refine ld fun W20 HS => ?_
         go_upto_region 27 with fail
         refine lnb HS.out rfl ?_
         refine lv 0 (.pointer (some ⟨k5, 0, none⟩)) rfl rfl (by intro x hx; go_simp; (first | done | exact rfl)) ?_
         simp only [sA, sB]
         refine ls 1 7 0 [.bool true] rfl rfl rfl (by intro x hx; obtain ⟨_, z0, q0⟩ := hx.at1 7 0 rfl; go_simp; (first | done | rfl)) ?_
         simp only [Blk.putC, setM, sA, sB]
         clear HS
         refine ld fun W21 HS => ?_
         go_upto_region 11 with fail
         refine lnb HS.out rfl ?_
         refine lm 0 13 rfl rfl rfl rfl ?_
         simp only [sA, sB]
         refine lv 1 (.int .i64 3) rfl rfl (by intro x hx; go_simp; (first | done | exact rfl)) ?_
         simp only [sA, sB]
         refine la 2 32 rfl rfl rfl rfl ?_
         simp only [sA, sB]
         clear HS
         refine ld fun W22 HS => ?_
         go_wp2
         exact ⟨hlt2, hid ⟨_, _, _, _, _, _, _, _, _, _, _, _, _, _, _, _, _, _, _, _, _, _, _, _, _, _, _, _, _, _, _, _, _, _, _, _, _, _, _, _, _, _, _, _, _, _, _, _, _, _, _, _, _, _, _, _, _, _, _, _, _, _, _, rfl, (by have h := HS.out; rw [upd_hi, upd_upd] at h; rw [to_same (f := (fun p q c => !odd3 p q c)) (x := (ofB x0)) (y := (ofB x1)) (c := (cars maj3 (ofB x0) (ofB x1) r1)) (r := r1) (k := 2) ((turn_yes (f := (fun p q c => !odd3 p q c)) (p := false) (q := true) (c := false) h1.out).trans rfl), to_true (f := odd3) (x := (ofB x0)) (y := (ofB x1)) (c := (cars maj3 (ofB x0) (ofB x1) r1)) (r := r1) (k := 2) ((turn_yes (f := odd3) (p := false) (q := true) (c := false) h1.out).trans rfl), to_true (f := (fun p q c => !maj3 p q c)) (x := (ofB x0)) (y := (ofB x1)) (c := (cars maj3 (ofB x0) (ofB x1) r1)) (r := r1) (k := 2) ((turn_yes (f := (fun p q c => !maj3 p q c)) (p := false) (q := true) (c := false) h1.out).trans rfl), to_same (f := maj3) (x := (ofB x0)) (y := (ofB x1)) (c := (cars maj3 (ofB x0) (ofB x1) r1)) (r := r1) (k := 2) ((turn_yes (f := maj3) (p := false) (q := true) (c := false) h1.out).trans rfl)]; exact h)⟩⟩
        ·replace h1 := hid h1
         go_upto_region 11 with fail
         refine lnb HS.out rfl ?_
         refine lm 0 13 rfl rfl rfl rfl ?_
         simp only [sA, sB]
         refine lv 1 (.int .i64 3) rfl rfl (by intro x hx; go_simp; (first | done | exact rfl)) ?_
         simp only [sA, sB]
         refine la 2 32 rfl rfl rfl rfl ?_
         simp only [sA, sB]
         clear HS
         refine ld fun W14 HS => ?_
         go_wp2
         exact ⟨hlt2, hid ⟨_, _, _, _, _, _, _, _, _, _, _, _, _, _, _, _, _, _, _, _, _, _, _, _, _, _, _, _, _, _, _, _, _, _, _, _, _, _, _, _, _, _, _, _, _, _, _, _, _, _, _, _, _, _, _, _, _, _, _, _, _, _, _, rfl, (by rw [to_same (f := (fun p q c => !odd3 p q c)) (x := (ofB x0)) (y := (ofB x1)) (c := (cars maj3 (ofB x0) (ofB x1) r1)) (r := r1) (k := 2) (turn_no (f := (fun p q c => !odd3 p q c)) (p := false) (q := true) (c := false) h1.out), to_same (f := odd3) (x := (ofB x0)) (y := (ofB x1)) (c := (cars maj3 (ofB x0) (ofB x1) r1)) (r := r1) (k := 2) (turn_no (f := odd3) (p := false) (q := true) (c := false) h1.out), to_same (f := (fun p q c => !maj3 p q c)) (x := (ofB x0)) (y := (ofB x1)) (c := (cars maj3 (ofB x0) (ofB x1) r1)) (r := r1) (k := 2) (turn_no (f := (fun p q c => !maj3 p q c)) (p := false) (q := true) (c := false) h1.out), to_same (f := maj3) (x := (ofB x0)) (y := (ofB x1)) (c := (cars maj3 (ofB x0) (ofB x1) r1)) (r := r1) (k := 2) (turn_no (f := maj3) (p := false) (q := true) (c := false) h1.out)]; exact HS.out)⟩⟩
      · rw [show ((3 : Nat) : Int) = 3 from rfl]
        go_upto_region 10 with fail
        refine lnb HS.out rfl ?_
        refine lm 0 13 rfl rfl rfl rfl ?_
        simp only [sA, sB]
        refine lv 1 (.bool true) rfl rfl (by intro x hx; go_simp; (first | done | exact rfl)) ?_
        simp only [sA, sB]
        clear HS
        refine ld fun W9 HS => ?_
        go_upto_region 12 with fail
        refine lnb HS.out rfl ?_
        refine lm 0 13 rfl rfl rfl rfl ?_
        simp only [sA, sB]
        refine lv 1 (.int .i64 1) rfl rfl (by intro x hx; go_simp; (first | done | exact rfl)) ?_
        simp only [sA, sB]
        refine la 2 34 rfl rfl rfl rfl ?_
        simp only [sA, sB]
        clear HS
        refine ld fun W10 HS => ?_
        go_upto_region 13 with fail
        refine lnb HS.out rfl ?_
        refine lm 0 13 rfl rfl rfl rfl ?_
        simp only [sA, sB]
        refine lv 1 (.int .i64 1) rfl rfl (by intro x hx; go_simp; (first | done | exact rfl)) ?_
        simp only [sA, sB]
        refine lv 2 (.int .i64 1) rfl rfl (by intro x hx; go_simp; (first | done | exact rfl)) ?_
        simp only [sA, sB]
        refine la 3 37 rfl rfl rfl rfl ?_
        simp only [sA, sB]
        clear HS
        refine ld fun W11 HS => ?_
        go_upto_region 14 with fail
        refine lnb HS.out rfl ?_
        refine lm 0 13 rfl rfl rfl rfl ?_
        simp only [sA, sB]
        refine lv 1 (.int .i64 0) rfl rfl (by intro x hx; go_simp; (first | done | exact rfl)) ?_
        simp only [sA, sB]
        refine la 2 39 rfl rfl rfl rfl ?_
        simp only [sA, sB]
        clear HS
        refine ld fun W12 HS => ?_
        go_upto_region 15 with fail
        refine lnb HS.out rfl ?_
        refine lv 0 (.agg (fnV 128 (two 64 (ofB x0).Z (ofB x0).O)).toArray) rfl rfl (by intro x hx; exact loadF hx 3 rfl rfl rfl (fun w => by kernel_rfl) (fun w => by kernel_rfl)) ?_
        simp only [sA, sB]
        refine lm 1 11 rfl rfl rfl rfl ?_
        simp only [sA, sB]
        refine lm 2 14 rfl rfl rfl rfl ?_
        simp only [sA, sB]
        refine lc 3 51 #[.agg (fnV 128 (two 64 (ofB x0).Z (ofB x0).O)).toArray, .int .i64 ((r1 : Nat) : Int), .int .i64 1] (.bool ((ofB x0).O r1)) rfl rfl (by intro x hx; exact ref_may_1 (ofB x0) r1 (by omega) _) ?_
        simp only [sA, sB]
        refine lv 4 (.bool ((!((ofB x0).O r1)))) rfl rfl (by intro x hx; go_simp; (first | done | exact rfl)) ?_
        simp only [sA, sB]
        refine lm 5 44 rfl rfl rfl rfl ?_
        simp only [sA, sB]
        refine lin_if (i := 6) (v := .agg (fnV 128 (two 64 (ofB x1).Z (ofB x1).O)).toArray) (!(!((ofB x0).O r1))) rfl rfl (by generalize (!((ofB x0).O r1)) = gg0; cases gg0 <;> rfl) (by intro hb; have hb132 := hid (show ((!((ofB x0).O r1))) = false from nnb hb); intro x hx; (try simp only [hb]); (try simp only [cond_true]); exact loadF hx 4 rfl rfl rfl (fun w => by kernel_rfl) (fun w => by kernel_rfl)) ?_
        simp only [sA, sB]
        refine lin_if (i := 7) (v := .int .i64 ((r1 : Nat) : Int)) (!(!((ofB x0).O r1))) rfl rfl (by generalize (!((ofB x0).O r1)) = gg0; cases gg0 <;> rfl) (by intro hb; have hb133 := hid (show ((!((ofB x0).O r1))) = false from nnb hb); intro x hx; (try simp only [hb]); (try simp only [cond_true]); go_simp; (first | done | exact rfl)) ?_
        simp only [sA, sB]
        refine lin_if (i := 8) (v := .int .i64 1) (!(!((ofB x0).O r1))) rfl rfl (by generalize (!((ofB x0).O r1)) = gg0; cases gg0 <;> rfl) (by intro hb; have hb134 := hid (show ((!((ofB x0).O r1))) = false from nnb hb); intro x hx; (try simp only [hb]); (try simp only [cond_true]); go_simp; (first | done | exact rfl)) ?_
        simp only [sA, sB]
        refine lin_if_call (i := 9) (f := 51) (args := #[.agg (fnV 128 (two 64 (ofB x1).Z (ofB x1).O)).toArray, .int .i64 ((r1 : Nat) : Int), .int .i64 1]) (v := .bool ((ofB x1).O r1)) (!(!((ofB x0).O r1))) (st_ups _ _) rfl rfl (by generalize (!((ofB x0).O r1)) = gg0; cases gg0 <;> rfl) (by intro hb; have hb135 := hid (show ((!((ofB x0).O r1))) = false from nnb hb); intro x hx; (try simp only [hb]); (try simp only [cond_true]); kernel_rfl) (by intro hb; have hb135 := hid (show ((!((ofB x0).O r1))) = false from nnb hb); intro x hx; exact ref_may_1 (ofB x1) r1 (by omega) _) ?_
        simp only [sA, sB]
        refine lin_if (i := 10) (v := .bool ((!((ofB x1).O r1)))) (!(!((ofB x0).O r1))) rfl rfl (by generalize (!((ofB x0).O r1)) = gg0; cases gg0 <;> rfl) (by intro hb; have hb136 := hid (show ((!((ofB x0).O r1))) = false from nnb hb); intro x hx; (try simp only [hb]); (try simp only [cond_true]); go_simp; (first | done | exact rfl)) ?_
        simp only [sA, sB]
        refine lv 11 (.bool ((bif (!((ofB x0).O r1)) then true else (!((ofB x1).O r1))))) rfl rfl (by intro x hx; (cases hq : ((!((ofB x0).O r1))) <;> first | rfl | (simp only [hq]; rfl) | simp [hq])) ?_
        simp only [sA, sB]
        refine lm 12 51 rfl rfl rfl rfl ?_
        simp only [sA, sB]
        refine lin_if (i := 13) (v := .int .i64 0) (!(bif (!((ofB x0).O r1)) then true else (!((ofB x1).O r1)))) rfl rfl (by generalize (bif (!((ofB x0).O r1)) then true else (!((ofB x1).O r1))) = gg0; cases gg0 <;> rfl) (by intro hb; have hb137 := hid (show ((bif (!((ofB x0).O r1)) then true else (!((ofB x1).O r1)))) = false from nnb hb); intro x hx; (try simp only [hb]); (try simp only [cond_true]); go_simp; (first | done | exact rfl)) ?_
        simp only [sA, sB]
        refine lin_if (i := 14) (v := .pointer (some ⟨k4, 0, none⟩)) (!(bif (!((ofB x0).O r1)) then true else (!((ofB x1).O r1)))) rfl rfl (by generalize (bif (!((ofB x0).O r1)) then true else (!((ofB x1).O r1))) = gg0; cases gg0 <;> rfl) (by intro hb; have hb138 := hid (show ((bif (!((ofB x0).O r1)) then true else (!((ofB x1).O r1)))) = false from nnb hb); intro x hx; (try simp only [hb]); (try simp only [cond_true]); go_simp; (first | done | exact rfl)) ?_
        simp only [sA, sB]
        refine lin_if (i := 15) (v := .bool ((cars maj3 (ofB x0) (ofB x1) r1).1)) (!(bif (!((ofB x0).O r1)) then true else (!((ofB x1).O r1)))) rfl rfl (by generalize (bif (!((ofB x0).O r1)) then true else (!((ofB x1).O r1))) = gg0; cases gg0 <;> rfl) (by intro hb; have hb139 := hid (show ((bif (!((ofB x0).O r1)) then true else (!((ofB x1).O r1)))) = false from nnb hb); intro x hx; (try simp only [hb]); (try simp only [cond_true]); have f0 := hx.load 6 0 rfl rfl; go_simp; (first | done | exact rfl)) ?_
        simp only [sA, sB]
        refine lin_if (i := 16) (v := .bool ((!((cars maj3 (ofB x0) (ofB x1) r1).1)))) (!(bif (!((ofB x0).O r1)) then true else (!((ofB x1).O r1)))) rfl rfl (by generalize (bif (!((ofB x0).O r1)) then true else (!((ofB x1).O r1))) = gg0; cases gg0 <;> rfl) (by intro hb; have hb140 := hid (show ((bif (!((ofB x0).O r1)) then true else (!((ofB x1).O r1)))) = false from nnb hb); intro x hx; (try simp only [hb]); (try simp only [cond_true]); go_simp; (first | done | exact rfl)) ?_
        simp only [sA, sB]
        refine lv 17 (.bool ((bif (bif (!((ofB x0).O r1)) then true else (!((ofB x1).O r1))) then true else (!((cars maj3 (ofB x0) (ofB x1) r1).1))))) rfl rfl (by intro x hx; (cases hq : ((bif (!((ofB x0).O r1)) then true else (!((ofB x1).O r1)))) <;> first | rfl | (simp only [hq]; rfl) | simp [hq])) ?_
        simp only [sA, sB]
        clear HS
        refine ld fun W13 HS => ?_
        cases h1 : ((bif (bif (!((ofB x0).O r1)) then true else (!((ofB x1).O r1))) then true else (!((cars maj3 (ofB x0) (ofB x1) r1).1))))
        ·replace h1 := hid h1
         go_upto_region 16 with fail
         refine lnb HS.out rfl ?_
         refine lm 0 14 rfl rfl rfl rfl ?_
         simp only [sA, sB]
         refine lm 1 15 rfl rfl rfl rfl ?_
         simp only [sA, sB]
         refine lv 2 (.int .i64 2) rfl rfl (by intro x hx; go_simp; (first | done | exact rfl)) ?_
         simp only [sA, sB]
         refine lm 3 16 rfl rfl rfl rfl ?_
         simp only [sA, sB]
         refine lv 4 (.int .i64 2) rfl rfl (by intro x hx; go_simp; (first | done | exact rfl)) ?_
         simp only [sA, sB]
         refine la 5 62 rfl rfl rfl rfl ?_
         simp only [sA, sB]
         clear HS
         refine ld fun W14 HS => ?_
         go_upto_region 17 with fail
         refine lnb HS.out rfl ?_
         refine lm 0 2 rfl rfl rfl rfl ?_
         simp only [sA, sB]
         clear HS
         refine ld fun W15 HS => ?_
         go_upto_region 19 with fail
         refine lnb HS.out rfl ?_
         refine lm 0 17 rfl rfl rfl rfl ?_
         simp only [sA, sB]
         refine lv 1 (.int .i64 0) rfl rfl (by intro x hx; go_simp; (first | done | exact rfl)) ?_
         simp only [sA, sB]
         refine lv 2 (.bool false) rfl rfl (by intro x hx; go_simp; (first | done | exact rfl)) ?_
         simp only [sA, sB]
         clear HS
         refine ld fun W16 HS => ?_
         go_upto_region 21 with fail
         refine lnb HS.out rfl ?_
         refine lm 0 11 rfl rfl rfl rfl ?_
         simp only [sA, sB]
         refine lv 1 (.pointer (some ⟨k3, 0, none⟩)) rfl rfl (by intro x hx; go_simp; (first | done | exact rfl)) ?_
         simp only [sA, sB]
         refine lv 2 (.pointer (some ⟨k3, r1, none⟩)) rfl rfl (by intro x hx; go_simp; first | (rw [if_pos (by omega)]; done) | (rw [if_pos (by omega)]; rfl) | (intro hq; exfalso; omega) | (simp; omega)) ?_
         simp only [sA, sB]
         refine lin_store (i := 3) (St w [⟨w.heap.size, [some (.int .u64 (tn (x0.lo))), some (.int .u64 (tn (x0.hi)))], 24⟩, ⟨w.heap.size + 1, [some (.int .u64 (tn (x1.lo))), some (.int .u64 (tn (x1.hi)))], 24⟩, ⟨w.heap.size + 2, [some (.int .u64 0), some (.int .u64 0)], 24⟩, ⟨k1, ((fnV 128 (two 64 (ofB x0).Z (ofB x0).O)).map some), 48⟩, ⟨k2, ((fnV 128 (two 64 (ofB x1).Z (ofB x1).O)).map some), 48⟩, ⟨k3, ((fnV 128 (upd (two 64 (upd (upto r1 (sumB maj3 (ofB x0) (ofB x1)).Z) r1 (someTo (fun p q c => !odd3 p q c) (ofB x0) (ofB x1) (cars maj3 (ofB x0) (ofB x1) r1) r1 3)) (upd (upto r1 (sumB maj3 (ofB x0) (ofB x1)).O) r1 (someTo odd3 (ofB x0) (ofB x1) (cars maj3 (ofB x0) (ofB x1) r1) r1 3))) r1 true)).map some), 48⟩, ⟨k4, [some (.bool ((cars maj3 (ofB x0) (ofB x1) r1).1)), some (.bool ((cars maj3 (ofB x0) (ofB x1) r1).2))], 60⟩, ⟨k5, [some (.bool ((someTo (fun p q c => !maj3 p q c) (ofB x0) (ofB x1) (cars maj3 (ofB x0) (ofB x1) r1) r1 3))), some (.bool ((someTo maj3 (ofB x0) (ofB x1) (cars maj3 (ofB x0) (ofB x1) r1) r1 3)))], 60⟩]) rfl rfl (by rfl) (fun x => x.setCell ⟨k3, r1, none⟩ (.bool true)) (by intro x hx; have z0 := hx.fn 5 (r1) rfl (by omega); have q0 := hx.soft 5 (r1) rfl; go_simp; (first | done | rfl)) (fun x hx => hx.fnset 5 (r1) true rfl) ?_
         clear HS
         refine ld fun W17 HS => ?_
         go_upto_region 22 with fail
         refine lnb HS.out rfl ?_
         refine lm 0 17 rfl rfl rfl rfl ?_
         simp only [sA, sB]
         refine lv 1 (.bool true) rfl rfl (by intro x hx; go_simp; (first | done | exact rfl)) ?_
         simp only [sA, sB]
         refine la 2 80 rfl rfl rfl rfl ?_
         simp only [sA, sB]
         clear HS
         refine ld fun W18 HS => ?_
         go_upto_region 23 with fail
         refine lnb HS.out rfl ?_
         refine lm 0 2 rfl rfl rfl rfl ?_
         simp only [sA, sB]
         clear HS
         refine ld fun W19 HS => ?_
         go_upto_region 25 with fail
         refine lnb HS.out rfl ?_
         refine lm 0 18 rfl rfl rfl rfl ?_
         simp only [sA, sB]
         clear HS
         refine ld fun W20 HS => ?_
         go_upto_region 26 with fail
         refine lnb HS.out rfl ?_
         refine lv 0 (.pointer (some ⟨k5, 1, none⟩)) rfl rfl (by intro x hx; go_simp; (first | done | exact rfl)) ?_
         simp only [sA, sB]
         refine ls 1 7 1 [.bool true] rfl rfl rfl (by intro x hx; obtain ⟨_, z0, q0⟩ := hx.at1 7 1 rfl; go_simp; (first | done | rfl)) ?_
         simp only [Blk.putC, setM, sA, sB]
         clear HS
         refine ld fun W21 HS => ?_
         go_upto_region 11 with fail
         refine lnb HS.out rfl ?_
         refine lm 0 13 rfl rfl rfl rfl ?_
         simp only [sA, sB]
         refine lv 1 (.int .i64 4) rfl rfl (by intro x hx; go_simp; (first | done | exact rfl)) ?_
         simp only [sA, sB]
         refine la 2 32 rfl rfl rfl rfl ?_
         simp only [sA, sB]
         clear HS
         refine ld fun W22 HS => ?_
         go_wp2
         exact ⟨hlt2, hid ⟨_, _, _, _, _, _, _, _, _, _, _, _, _, _, _, _, _, _, _, _, _, _, _, _, _, _, _, _, _, _, _, _, _, _, _, _, _, _, _, _, _, _, _, _, _, _, _, _, _, _, _, _, _, _, _, _, _, _, _, _, _, _, _, rfl, (by have h := HS.out; rw [upd_lo (by omega), upd_upd] at h; rw [to_true (f := (fun p q c => !odd3 p q c)) (x := (ofB x0)) (y := (ofB x1)) (c := (cars maj3 (ofB x0) (ofB x1) r1)) (r := r1) (k := 3) ((turn_yes (f := (fun p q c => !odd3 p q c)) (p := true) (q := true) (c := false) h1.out).trans rfl), to_same (f := odd3) (x := (ofB x0)) (y := (ofB x1)) (c := (cars maj3 (ofB x0) (ofB x1) r1)) (r := r1) (k := 3) ((turn_yes (f := odd3) (p := true) (q := true) (c := false) h1.out).trans rfl), to_same (f := (fun p q c => !maj3 p q c)) (x := (ofB x0)) (y := (ofB x1)) (c := (cars maj3 (ofB x0) (ofB x1) r1)) (r := r1) (k := 3) ((turn_yes (f := (fun p q c => !maj3 p q c)) (p := true) (q := true) (c := false) h1.out).trans rfl), to_true (f := maj3) (x := (ofB x0)) (y := (ofB x1)) (c := (cars maj3 (ofB x0) (ofB x1) r1)) (r := r1) (k := 3) ((turn_yes (f := maj3) (p := true) (q := true) (c := false) h1.out).trans rfl)]; exact h)⟩⟩
        ·replace h1 := hid h1
         go_upto_region 11 with fail
         refine lnb HS.out rfl ?_
         refine lm 0 13 rfl rfl rfl rfl ?_
         simp only [sA, sB]
         refine lv 1 (.int .i64 4) rfl rfl (by intro x hx; go_simp; (first | done | exact rfl)) ?_
         simp only [sA, sB]
         refine la 2 32 rfl rfl rfl rfl ?_
         simp only [sA, sB]
         clear HS
         refine ld fun W14 HS => ?_
         go_wp2
         exact ⟨hlt2, hid ⟨_, _, _, _, _, _, _, _, _, _, _, _, _, _, _, _, _, _, _, _, _, _, _, _, _, _, _, _, _, _, _, _, _, _, _, _, _, _, _, _, _, _, _, _, _, _, _, _, _, _, _, _, _, _, _, _, _, _, _, _, _, _, _, rfl, (by rw [to_same (f := (fun p q c => !odd3 p q c)) (x := (ofB x0)) (y := (ofB x1)) (c := (cars maj3 (ofB x0) (ofB x1) r1)) (r := r1) (k := 3) (turn_no (f := (fun p q c => !odd3 p q c)) (p := true) (q := true) (c := false) h1.out), to_same (f := odd3) (x := (ofB x0)) (y := (ofB x1)) (c := (cars maj3 (ofB x0) (ofB x1) r1)) (r := r1) (k := 3) (turn_no (f := odd3) (p := true) (q := true) (c := false) h1.out), to_same (f := (fun p q c => !maj3 p q c)) (x := (ofB x0)) (y := (ofB x1)) (c := (cars maj3 (ofB x0) (ofB x1) r1)) (r := r1) (k := 3) (turn_no (f := (fun p q c => !maj3 p q c)) (p := true) (q := true) (c := false) h1.out), to_same (f := maj3) (x := (ofB x0)) (y := (ofB x1)) (c := (cars maj3 (ofB x0) (ofB x1) r1)) (r := r1) (k := 3) (turn_no (f := maj3) (p := true) (q := true) (c := false) h1.out)]; exact HS.out)⟩⟩
      · rw [show ((4 : Nat) : Int) = 4 from rfl]
        go_upto_region 10 with fail
        refine lnb HS.out rfl ?_
        refine lm 0 13 rfl rfl rfl rfl ?_
        simp only [sA, sB]
        refine lv 1 (.bool true) rfl rfl (by intro x hx; go_simp; (first | done | exact rfl)) ?_
        simp only [sA, sB]
        clear HS
        refine ld fun W9 HS => ?_
        go_upto_region 12 with fail
        refine lnb HS.out rfl ?_
        refine lm 0 13 rfl rfl rfl rfl ?_
        simp only [sA, sB]
        refine lv 1 (.int .i64 0) rfl rfl (by intro x hx; go_simp; (first | done | exact rfl)) ?_
        simp only [sA, sB]
        refine la 2 34 rfl rfl rfl rfl ?_
        simp only [sA, sB]
        clear HS
        refine ld fun W10 HS => ?_
        go_upto_region 13 with fail
        refine lnb HS.out rfl ?_
        refine lm 0 13 rfl rfl rfl rfl ?_
        simp only [sA, sB]
        refine lv 1 (.int .i64 2) rfl rfl (by intro x hx; go_simp; (first | done | exact rfl)) ?_
        simp only [sA, sB]
        refine lv 2 (.int .i64 0) rfl rfl (by intro x hx; go_simp; (first | done | exact rfl)) ?_
        simp only [sA, sB]
        refine la 3 37 rfl rfl rfl rfl ?_
        simp only [sA, sB]
        clear HS
        refine ld fun W11 HS => ?_
        go_upto_region 14 with fail
        refine lnb HS.out rfl ?_
        refine lm 0 13 rfl rfl rfl rfl ?_
        simp only [sA, sB]
        refine lv 1 (.int .i64 1) rfl rfl (by intro x hx; go_simp; (first | done | exact rfl)) ?_
        simp only [sA, sB]
        refine la 2 39 rfl rfl rfl rfl ?_
        simp only [sA, sB]
        clear HS
        refine ld fun W12 HS => ?_
        go_upto_region 15 with fail
        refine lnb HS.out rfl ?_
        refine lv 0 (.agg (fnV 128 (two 64 (ofB x0).Z (ofB x0).O)).toArray) rfl rfl (by intro x hx; exact loadF hx 3 rfl rfl rfl (fun w => by kernel_rfl) (fun w => by kernel_rfl)) ?_
        simp only [sA, sB]
        refine lm 1 11 rfl rfl rfl rfl ?_
        simp only [sA, sB]
        refine lm 2 14 rfl rfl rfl rfl ?_
        simp only [sA, sB]
        refine lc 3 51 #[.agg (fnV 128 (two 64 (ofB x0).Z (ofB x0).O)).toArray, .int .i64 ((r1 : Nat) : Int), .int .i64 0] (.bool ((ofB x0).Z r1)) rfl rfl (by intro x hx; exact ref_may_0 (ofB x0) r1 (by omega) _) ?_
        simp only [sA, sB]
        refine lv 4 (.bool ((!((ofB x0).Z r1)))) rfl rfl (by intro x hx; go_simp; (first | done | exact rfl)) ?_
        simp only [sA, sB]
        refine lm 5 44 rfl rfl rfl rfl ?_
        simp only [sA, sB]
        refine lin_if (i := 6) (v := .agg (fnV 128 (two 64 (ofB x1).Z (ofB x1).O)).toArray) (!(!((ofB x0).Z r1))) rfl rfl (by generalize (!((ofB x0).Z r1)) = gg0; cases gg0 <;> rfl) (by intro hb; have hb141 := hid (show ((!((ofB x0).Z r1))) = false from nnb hb); intro x hx; (try simp only [hb]); (try simp only [cond_true]); exact loadF hx 4 rfl rfl rfl (fun w => by kernel_rfl) (fun w => by kernel_rfl)) ?_
        simp only [sA, sB]
        refine lin_if (i := 7) (v := .int .i64 ((r1 : Nat) : Int)) (!(!((ofB x0).Z r1))) rfl rfl (by generalize (!((ofB x0).Z r1)) = gg0; cases gg0 <;> rfl) (by intro hb; have hb142 := hid (show ((!((ofB x0).Z r1))) = false from nnb hb); intro x hx; (try simp only [hb]); (try simp only [cond_true]); go_simp; (first | done | exact rfl)) ?_
        simp only [sA, sB]
        refine lin_if (i := 8) (v := .int .i64 0) (!(!((ofB x0).Z r1))) rfl rfl (by generalize (!((ofB x0).Z r1)) = gg0; cases gg0 <;> rfl) (by intro hb; have hb143 := hid (show ((!((ofB x0).Z r1))) = false from nnb hb); intro x hx; (try simp only [hb]); (try simp only [cond_true]); go_simp; (first | done | exact rfl)) ?_
        simp only [sA, sB]
        refine lin_if_call (i := 9) (f := 51) (args := #[.agg (fnV 128 (two 64 (ofB x1).Z (ofB x1).O)).toArray, .int .i64 ((r1 : Nat) : Int), .int .i64 0]) (v := .bool ((ofB x1).Z r1)) (!(!((ofB x0).Z r1))) (st_ups _ _) rfl rfl (by generalize (!((ofB x0).Z r1)) = gg0; cases gg0 <;> rfl) (by intro hb; have hb144 := hid (show ((!((ofB x0).Z r1))) = false from nnb hb); intro x hx; (try simp only [hb]); (try simp only [cond_true]); kernel_rfl) (by intro hb; have hb144 := hid (show ((!((ofB x0).Z r1))) = false from nnb hb); intro x hx; exact ref_may_0 (ofB x1) r1 (by omega) _) ?_
        simp only [sA, sB]
        refine lin_if (i := 10) (v := .bool ((!((ofB x1).Z r1)))) (!(!((ofB x0).Z r1))) rfl rfl (by generalize (!((ofB x0).Z r1)) = gg0; cases gg0 <;> rfl) (by intro hb; have hb145 := hid (show ((!((ofB x0).Z r1))) = false from nnb hb); intro x hx; (try simp only [hb]); (try simp only [cond_true]); go_simp; (first | done | exact rfl)) ?_
        simp only [sA, sB]
        refine lv 11 (.bool ((bif (!((ofB x0).Z r1)) then true else (!((ofB x1).Z r1))))) rfl rfl (by intro x hx; (cases hq : ((!((ofB x0).Z r1))) <;> first | rfl | (simp only [hq]; rfl) | simp [hq])) ?_
        simp only [sA, sB]
        refine lm 12 51 rfl rfl rfl rfl ?_
        simp only [sA, sB]
        refine lin_if (i := 13) (v := .int .i64 1) (!(bif (!((ofB x0).Z r1)) then true else (!((ofB x1).Z r1)))) rfl rfl (by generalize (bif (!((ofB x0).Z r1)) then true else (!((ofB x1).Z r1))) = gg0; cases gg0 <;> rfl) (by intro hb; have hb146 := hid (show ((bif (!((ofB x0).Z r1)) then true else (!((ofB x1).Z r1)))) = false from nnb hb); intro x hx; (try simp only [hb]); (try simp only [cond_true]); go_simp; (first | done | exact rfl)) ?_
        simp only [sA, sB]
        refine lin_if (i := 14) (v := .pointer (some ⟨k4, 1, none⟩)) (!(bif (!((ofB x0).Z r1)) then true else (!((ofB x1).Z r1)))) rfl rfl (by generalize (bif (!((ofB x0).Z r1)) then true else (!((ofB x1).Z r1))) = gg0; cases gg0 <;> rfl) (by intro hb; have hb147 := hid (show ((bif (!((ofB x0).Z r1)) then true else (!((ofB x1).Z r1)))) = false from nnb hb); intro x hx; (try simp only [hb]); (try simp only [cond_true]); go_simp; (first | done | exact rfl)) ?_
        simp only [sA, sB]
        refine lin_if (i := 15) (v := .bool ((cars maj3 (ofB x0) (ofB x1) r1).2)) (!(bif (!((ofB x0).Z r1)) then true else (!((ofB x1).Z r1)))) rfl rfl (by generalize (bif (!((ofB x0).Z r1)) then true else (!((ofB x1).Z r1))) = gg0; cases gg0 <;> rfl) (by intro hb; have hb148 := hid (show ((bif (!((ofB x0).Z r1)) then true else (!((ofB x1).Z r1)))) = false from nnb hb); intro x hx; (try simp only [hb]); (try simp only [cond_true]); have f0 := hx.load 6 1 rfl rfl; go_simp; (first | done | exact rfl)) ?_
        simp only [sA, sB]
        refine lin_if (i := 16) (v := .bool ((!((cars maj3 (ofB x0) (ofB x1) r1).2)))) (!(bif (!((ofB x0).Z r1)) then true else (!((ofB x1).Z r1)))) rfl rfl (by generalize (bif (!((ofB x0).Z r1)) then true else (!((ofB x1).Z r1))) = gg0; cases gg0 <;> rfl) (by intro hb; have hb149 := hid (show ((bif (!((ofB x0).Z r1)) then true else (!((ofB x1).Z r1)))) = false from nnb hb); intro x hx; (try simp only [hb]); (try simp only [cond_true]); go_simp; (first | done | exact rfl)) ?_
        simp only [sA, sB]
        refine lv 17 (.bool ((bif (bif (!((ofB x0).Z r1)) then true else (!((ofB x1).Z r1))) then true else (!((cars maj3 (ofB x0) (ofB x1) r1).2))))) rfl rfl (by intro x hx; (cases hq : ((bif (!((ofB x0).Z r1)) then true else (!((ofB x1).Z r1)))) <;> first | rfl | (simp only [hq]; rfl) | simp [hq])) ?_
        simp only [sA, sB]
        clear HS
        refine ld fun W13 HS => ?_
        cases h1 : ((bif (bif (!((ofB x0).Z r1)) then true else (!((ofB x1).Z r1))) then true else (!((cars maj3 (ofB x0) (ofB x1) r1).2))))
        ·replace h1 := hid h1
         go_upto_region 16 with fail
         refine lnb HS.out rfl ?_
         refine lm 0 14 rfl rfl rfl rfl ?_
         simp only [sA, sB]
         refine lm 1 15 rfl rfl rfl rfl ?_
         simp only [sA, sB]
         refine lv 2 (.int .i64 0) rfl rfl (by intro x hx; go_simp; (first | done | exact rfl)) ?_
         simp only [sA, sB]
         refine lm 3 16 rfl rfl rfl rfl ?_
         simp only [sA, sB]
         refine lv 4 (.int .i64 1) rfl rfl (by intro x hx; go_simp; (first | done | exact rfl)) ?_
         simp only [sA, sB]
         refine la 5 62 rfl rfl rfl rfl ?_
         simp only [sA, sB]
         clear HS
         refine ld fun W14 HS => ?_
         go_upto_region 17 with fail
         refine lnb HS.out rfl ?_
         refine lm 0 2 rfl rfl rfl rfl ?_
         simp only [sA, sB]
         clear HS
         refine ld fun W15 HS => ?_
         go_upto_region 19 with fail
         refine lnb HS.out rfl ?_
         refine lm 0 17 rfl rfl rfl rfl ?_
         simp only [sA, sB]
         refine lv 1 (.int .i64 1) rfl rfl (by intro x hx; go_simp; (first | done | exact rfl)) ?_
         simp only [sA, sB]
         refine lv 2 (.bool true) rfl rfl (by intro x hx; go_simp; (first | done | exact rfl)) ?_
         simp only [sA, sB]
         clear HS
         refine ld fun W16 HS => ?_
         go_upto_region 20 with fail
         refine lnb HS.out rfl ?_
         refine lm 0 11 rfl rfl rfl rfl ?_
         simp only [sA, sB]
         refine lv 1 (.pointer (some ⟨k3, 64, none⟩)) rfl rfl (by intro x hx; go_simp; (first | done | exact rfl)) ?_
         simp only [sA, sB]
         refine lv 2 (.pointer (some ⟨k3, 64 + r1, none⟩)) rfl rfl (by intro x hx; go_simp; first | (rw [if_pos (by omega)]; done) | (rw [if_pos (by omega)]; rfl) | (intro hq; exfalso; omega) | (simp; omega)) ?_
         simp only [sA, sB]
         refine lin_store (i := 3) (St w [⟨w.heap.size, [some (.int .u64 (tn (x0.lo))), some (.int .u64 (tn (x0.hi)))], 24⟩, ⟨w.heap.size + 1, [some (.int .u64 (tn (x1.lo))), some (.int .u64 (tn (x1.hi)))], 24⟩, ⟨w.heap.size + 2, [some (.int .u64 0), some (.int .u64 0)], 24⟩, ⟨k1, ((fnV 128 (two 64 (ofB x0).Z (ofB x0).O)).map some), 48⟩, ⟨k2, ((fnV 128 (two 64 (ofB x1).Z (ofB x1).O)).map some), 48⟩, ⟨k3, ((fnV 128 (upd (two 64 (upd (upto r1 (sumB maj3 (ofB x0) (ofB x1)).Z) r1 (someTo (fun p q c => !odd3 p q c) (ofB x0) (ofB x1) (cars maj3 (ofB x0) (ofB x1) r1) r1 4)) (upd (upto r1 (sumB maj3 (ofB x0) (ofB x1)).O) r1 (someTo odd3 (ofB x0) (ofB x1) (cars maj3 (ofB x0) (ofB x1) r1) r1 4))) (64 + r1) true)).map some), 48⟩, ⟨k4, [some (.bool ((cars maj3 (ofB x0) (ofB x1) r1).1)), some (.bool ((cars maj3 (ofB x0) (ofB x1) r1).2))], 60⟩, ⟨k5, [some (.bool ((someTo (fun p q c => !maj3 p q c) (ofB x0) (ofB x1) (cars maj3 (ofB x0) (ofB x1) r1) r1 4))), some (.bool ((someTo maj3 (ofB x0) (ofB x1) (cars maj3 (ofB x0) (ofB x1) r1) r1 4)))], 60⟩]) rfl rfl (by rfl) (fun x => x.setCell ⟨k3, 64 + r1, none⟩ (.bool true)) (by intro x hx; have z0 := hx.fn 5 (64 + r1) rfl (by omega); have q0 := hx.soft 5 (64 + r1) rfl; go_simp; (first | done | rfl)) (fun x hx => hx.fnset 5 (64 + r1) true rfl) ?_
         clear HS
         refine ld fun W17 HS => ?_
         go_upto_region 22 with fail
         refine lnb HS.out rfl ?_
         refine lm 0 17 rfl rfl rfl rfl ?_
         simp only [sA, sB]
         refine lv 1 (.bool false) rfl rfl (by intro x hx; go_simp; (first | done | exact rfl)) ?_
         simp only [sA, sB]
         refine la 2 80 rfl rfl rfl rfl ?_
         simp only [sA, sB]
         clear HS
         refine ld fun W18 HS => ?_
         go_upto_region 23 with fail
         refine lnb HS.out rfl ?_
         refine lm 0 2 rfl rfl rfl rfl ?_
         simp only [sA, sB]
         clear HS
         refine ld fun W19 HS => ?_
         go_upto_region 25 with fail
         refine lnb HS.out rfl ?_
         refine lm 0 18 rfl rfl rfl rfl ?_
         simp only [sA, sB]
         clear HS
         refine ld fun W20 HS => ?_
         go_upto_region 27 with fail
         refine lnb HS.out rfl ?_
         refine lv 0 (.pointer (some ⟨k5, 0, none⟩)) rfl rfl (by intro x hx; go_simp; (first | done | exact rfl)) ?_
         simp only [sA, sB]
         refine ls 1 7 0 [.bool true] rfl rfl rfl (by intro x hx; obtain ⟨_, z0, q0⟩ := hx.at1 7 0 rfl; go_simp; (first | done | rfl)) ?_
         simp only [Blk.putC, setM, sA, sB]
         clear HS
         refine ld fun W21 HS => ?_
         go_upto_region 11 with fail
         refine lnb HS.out rfl ?_
         refine lm 0 13 rfl rfl rfl rfl ?_
         simp only [sA, sB]
         refine lv 1 (.int .i64 5) rfl rfl (by intro x hx; go_simp; (first | done | exact rfl)) ?_
         simp only [sA, sB]
         refine la 2 32 rfl rfl rfl rfl ?_
         simp only [sA, sB]
         clear HS
         refine ld fun W22 HS => ?_
         go_wp2
         exact ⟨hlt2, hid ⟨_, _, _, _, _, _, _, _, _, _, _, _, _, _, _, _, _, _, _, _, _, _, _, _, _, _, _, _, _, _, _, _, _, _, _, _, _, _, _, _, _, _, _, _, _, _, _, _, _, _, _, _, _, _, _, _, _, _, _, _, _, _, _, rfl, (by have h := HS.out; rw [upd_hi, upd_upd] at h; rw [to_same (f := (fun p q c => !odd3 p q c)) (x := (ofB x0)) (y := (ofB x1)) (c := (cars maj3 (ofB x0) (ofB x1) r1)) (r := r1) (k := 4) ((turn_yes (f := (fun p q c => !odd3 p q c)) (p := false) (q := false) (c := true) h1.out).trans rfl), to_true (f := odd3) (x := (ofB x0)) (y := (ofB x1)) (c := (cars maj3 (ofB x0) (ofB x1) r1)) (r := r1) (k := 4) ((turn_yes (f := odd3) (p := false) (q := false) (c := true) h1.out).trans rfl), to_true (f := (fun p q c => !maj3 p q c)) (x := (ofB x0)) (y := (ofB x1)) (c := (cars maj3 (ofB x0) (ofB x1) r1)) (r := r1) (k := 4) ((turn_yes (f := (fun p q c => !maj3 p q c)) (p := false) (q := false) (c := true) h1.out).trans rfl), to_same (f := maj3) (x := (ofB x0)) (y := (ofB x1)) (c := (cars maj3 (ofB x0) (ofB x1) r1)) (r := r1) (k := 4) ((turn_yes (f := maj3) (p := false) (q := false) (c := true) h1.out).trans rfl)]; exact h)⟩⟩
        ·replace h1 := hid h1
         go_upto_region 11 with fail
         refine lnb HS.out rfl ?_
         refine lm 0 13 rfl rfl rfl rfl ?_
         simp only [sA, sB]
         refine lv 1 (.int .i64 5) rfl rfl (by intro x hx; go_simp; (first | done | exact rfl)) ?_
         simp only [sA, sB]
         refine la 2 32 rfl rfl rfl rfl ?_
         simp only [sA, sB]
         clear HS
         refine ld fun W14 HS => ?_
         go_wp2
         exact ⟨hlt2, hid ⟨_, _, _, _, _, _, _, _, _, _, _, _, _, _, _, _, _, _, _, _, _, _, _, _, _, _, _, _, _, _, _, _, _, _, _, _, _, _, _, _, _, _, _, _, _, _, _, _, _, _, _, _, _, _, _, _, _, _, _, _, _, _, _, rfl, (by rw [to_same (f := (fun p q c => !odd3 p q c)) (x := (ofB x0)) (y := (ofB x1)) (c := (cars maj3 (ofB x0) (ofB x1) r1)) (r := r1) (k := 4) (turn_no (f := (fun p q c => !odd3 p q c)) (p := false) (q := false) (c := true) h1.out), to_same (f := odd3) (x := (ofB x0)) (y := (ofB x1)) (c := (cars maj3 (ofB x0) (ofB x1) r1)) (r := r1) (k := 4) (turn_no (f := odd3) (p := false) (q := false) (c := true) h1.out), to_same (f := (fun p q c => !maj3 p q c)) (x := (ofB x0)) (y := (ofB x1)) (c := (cars maj3 (ofB x0) (ofB x1) r1)) (r := r1) (k := 4) (turn_no (f := (fun p q c => !maj3 p q c)) (p := false) (q := false) (c := true) h1.out), to_same (f := maj3) (x := (ofB x0)) (y := (ofB x1)) (c := (cars maj3 (ofB x0) (ofB x1) r1)) (r := r1) (k := 4) (turn_no (f := maj3) (p := false) (q := false) (c := true) h1.out)]; exact HS.out)⟩⟩
      · rw [show ((5 : Nat) : Int) = 5 from rfl]
        go_upto_region 10 with fail
        refine lnb HS.out rfl ?_
        refine lm 0 13 rfl rfl rfl rfl ?_
        simp only [sA, sB]
        refine lv 1 (.bool true) rfl rfl (by intro x hx; go_simp; (first | done | exact rfl)) ?_
        simp only [sA, sB]
        clear HS
        refine ld fun W9 HS => ?_
        go_upto_region 12 with fail
        refine lnb HS.out rfl ?_
        refine lm 0 13 rfl rfl rfl rfl ?_
        simp only [sA, sB]
        refine lv 1 (.int .i64 1) rfl rfl (by intro x hx; go_simp; (first | done | exact rfl)) ?_
        simp only [sA, sB]
        refine la 2 34 rfl rfl rfl rfl ?_
        simp only [sA, sB]
        clear HS
        refine ld fun W10 HS => ?_
        go_upto_region 13 with fail
        refine lnb HS.out rfl ?_
        refine lm 0 13 rfl rfl rfl rfl ?_
        simp only [sA, sB]
        refine lv 1 (.int .i64 2) rfl rfl (by intro x hx; go_simp; (first | done | exact rfl)) ?_
        simp only [sA, sB]
        refine lv 2 (.int .i64 0) rfl rfl (by intro x hx; go_simp; (first | done | exact rfl)) ?_
        simp only [sA, sB]
        refine la 3 37 rfl rfl rfl rfl ?_
        simp only [sA, sB]
        clear HS
        refine ld fun W11 HS => ?_
        go_upto_region 14 with fail
        refine lnb HS.out rfl ?_
        refine lm 0 13 rfl rfl rfl rfl ?_
        simp only [sA, sB]
        refine lv 1 (.int .i64 1) rfl rfl (by intro x hx; go_simp; (first | done | exact rfl)) ?_
        simp only [sA, sB]
        refine la 2 39 rfl rfl rfl rfl ?_
        simp only [sA, sB]
        clear HS
        refine ld fun W12 HS => ?_
        go_upto_region 15 with fail
        refine lnb HS.out rfl ?_
        refine lv 0 (.agg (fnV 128 (two 64 (ofB x0).Z (ofB x0).O)).toArray) rfl rfl (by intro x hx; exact loadF hx 3 rfl rfl rfl (fun w => by kernel_rfl) (fun w => by kernel_rfl)) ?_
        simp only [sA, sB]
        refine lm 1 11 rfl rfl rfl rfl ?_
        simp only [sA, sB]
        refine lm 2 14 rfl rfl rfl rfl ?_
        simp only [sA, sB]
        refine lc 3 51 #[.agg (fnV 128 (two 64 (ofB x0).Z (ofB x0).O)).toArray, .int .i64 ((r1 : Nat) : Int), .int .i64 1] (.bool ((ofB x0).O r1)) rfl rfl (by intro x hx; exact ref_may_1 (ofB x0) r1 (by omega) _) ?_
        simp only [sA, sB]
        refine lv 4 (.bool ((!((ofB x0).O r1)))) rfl rfl (by intro x hx; go_simp; (first | done | exact rfl)) ?_
        simp only [sA, sB]
        refine lm 5 44 rfl rfl rfl rfl ?_
        simp only [sA, sB]
        refine lin_if (i := 6) (v := .agg (fnV 128 (two 64 (ofB x1).Z (ofB x1).O)).toArray) (!(!((ofB x0).O r1))) rfl rfl (by generalize (!((ofB x0).O r1)) = gg0; cases gg0 <;> rfl) (by intro hb; have hb150 := hid (show ((!((ofB x0).O r1))) = false from nnb hb); intro x hx; (try simp only [hb]); (try simp only [cond_true]); exact loadF hx 4 rfl rfl rfl (fun w => by kernel_rfl) (fun w => by kernel_rfl)) ?_
        simp only [sA, sB]
        refine lin_if (i := 7) (v := .int .i64 ((r1 : Nat) : Int)) (!(!((ofB x0).O r1))) rfl rfl (by generalize (!((ofB x0).O r1)) = gg0; cases gg0 <;> rfl) (by intro hb; have hb151 := hid (show ((!((ofB x0).O r1))) = false from nnb hb); intro x hx; (try simp only [hb]); (try simp only [cond_true]); go_simp; (first | done | exact rfl)) ?_
        simp only [sA, sB]
        refine lin_if (i := 8) (v := .int .i64 0) (!(!((ofB x0).O r1))) rfl rfl (by generalize (!((ofB x0).O r1)) = gg0; cases gg0 <;> rfl) (by intro hb; have hb152 := hid (show ((!((ofB x0).O r1))) = false from nnb hb); intro x hx; (try simp only [hb]); (try simp only [cond_true]); go_simp; (first | done | exact rfl)) ?_
        simp only [sA, sB]
        refine lin_if_call (i := 9) (f := 51) (args := #[.agg (fnV 128 (two 64 (ofB x1).Z (ofB x1).O)).toArray, .int .i64 ((r1 : Nat) : Int), .int .i64 0]) (v := .bool ((ofB x1).Z r1)) (!(!((ofB x0).O r1))) (st_ups _ _) rfl rfl (by generalize (!((ofB x0).O r1)) = gg0; cases gg0 <;> rfl) (by intro hb; have hb153 := hid (show ((!((ofB x0).O r1))) = false from nnb hb); intro x hx; (try simp only [hb]); (try simp only [cond_true]); kernel_rfl) (by intro hb; have hb153 := hid (show ((!((ofB x0).O r1))) = false from nnb hb); intro x hx; exact ref_may_0 (ofB x1) r1 (by omega) _) ?_
        simp only [sA, sB]
        refine lin_if (i := 10) (v := .bool ((!((ofB x1).Z r1)))) (!(!((ofB x0).O r1))) rfl rfl (by generalize (!((ofB x0).O r1)) = gg0; cases gg0 <;> rfl) (by intro hb; have hb154 := hid (show ((!((ofB x0).O r1))) = false from nnb hb); intro x hx; (try simp only [hb]); (try simp only [cond_true]); go_simp; (first | done | exact rfl)) ?_
        simp only [sA, sB]
        refine lv 11 (.bool ((bif (!((ofB x0).O r1)) then true else (!((ofB x1).Z r1))))) rfl rfl (by intro x hx; (cases hq : ((!((ofB x0).O r1))) <;> first | rfl | (simp only [hq]; rfl) | simp [hq])) ?_
        simp only [sA, sB]
        refine lm 12 51 rfl rfl rfl rfl ?_
        simp only [sA, sB]
        refine lin_if (i := 13) (v := .int .i64 1) (!(bif (!((ofB x0).O r1)) then true else (!((ofB x1).Z r1)))) rfl rfl (by generalize (bif (!((ofB x0).O r1)) then true else (!((ofB x1).Z r1))) = gg0; cases gg0 <;> rfl) (by intro hb; have hb155 := hid (show ((bif (!((ofB x0).O r1)) then true else (!((ofB x1).Z r1)))) = false from nnb hb); intro x hx; (try simp only [hb]); (try simp only [cond_true]); go_simp; (first | done | exact rfl)) ?_
        simp only [sA, sB]
        refine lin_if (i := 14) (v := .pointer (some ⟨k4, 1, none⟩)) (!(bif (!((ofB x0).O r1)) then true else (!((ofB x1).Z r1)))) rfl rfl (by generalize (bif (!((ofB x0).O r1)) then true else (!((ofB x1).Z r1))) = gg0; cases gg0 <;> rfl) (by intro hb; have hb156 := hid (show ((bif (!((ofB x0).O r1)) then true else (!((ofB x1).Z r1)))) = false from nnb hb); intro x hx; (try simp only [hb]); (try simp only [cond_true]); go_simp; (first | done | exact rfl)) ?_
        simp only [sA, sB]
        refine lin_if (i := 15) (v := .bool ((cars maj3 (ofB x0) (ofB x1) r1).2)) (!(bif (!((ofB x0).O r1)) then true else (!((ofB x1).Z r1)))) rfl rfl (by generalize (bif (!((ofB x0).O r1)) then true else (!((ofB x1).Z r1))) = gg0; cases gg0 <;> rfl) (by intro hb; have hb157 := hid (show ((bif (!((ofB x0).O r1)) then true else (!((ofB x1).Z r1)))) = false from nnb hb); intro x hx; (try simp only [hb]); (try simp only [cond_true]); have f0 := hx.load 6 1 rfl rfl; go_simp; (first | done | exact rfl)) ?_
        simp only [sA, sB]
        refine lin_if (i := 16) (v := .bool ((!((cars maj3 (ofB x0) (ofB x1) r1).2)))) (!(bif (!((ofB x0).O r1)) then true else (!((ofB x1).Z r1)))) rfl rfl (by generalize (bif (!((ofB x0).O r1)) then true else (!((ofB x1).Z r1))) = gg0; cases gg0 <;> rfl) (by intro hb; have hb158 := hid (show ((bif (!((ofB x0).O r1)) then true else (!((ofB x1).Z r1)))) = false from nnb hb); intro x hx; (try simp only [hb]); (try simp only [cond_true]); go_simp; (first | done | exact rfl)) ?_
        simp only [sA, sB]
        refine lv 17 (.bool ((bif (bif (!((ofB x0).O r1)) then true else (!((ofB x1).Z r1))) then true else (!((cars maj3 (ofB x0) (ofB x1) r1).2))))) rfl rfl (by intro x hx; (cases hq : ((bif (!((ofB x0).O r1)) then true else (!((ofB x1).Z r1)))) <;> first | rfl | (simp only [hq]; rfl) | simp [hq])) ?_
        simp only [sA, sB]
        clear HS
        refine ld fun W13 HS => ?_
        cases h1 : ((bif (bif (!((ofB x0).O r1)) then true else (!((ofB x1).Z r1))) then true else (!((cars maj3 (ofB x0) (ofB x1) r1).2))))
        ·replace h1 := hid h1
         go_upto_region 16 with fail
         refine lnb HS.out rfl ?_
         refine lm 0 14 rfl rfl rfl rfl ?_
         simp only [sA, sB]
         refine lm 1 15 rfl rfl rfl rfl ?_
         simp only [sA, sB]
         refine lv 2 (.int .i64 1) rfl rfl (by intro x hx; go_simp; (first | done | exact rfl)) ?_
         simp only [sA, sB]
         refine lm 3 16 rfl rfl rfl rfl ?_
         simp only [sA, sB]
         refine lv 4 (.int .i64 2) rfl rfl (by intro x hx; go_simp; (first | done | exact rfl)) ?_
         simp only [sA, sB]
         refine la 5 62 rfl rfl rfl rfl ?_
         simp only [sA, sB]
         clear HS
         refine ld fun W14 HS => ?_
         go_upto_region 17 with fail
         refine lnb HS.out rfl ?_
         refine lm 0 2 rfl rfl rfl rfl ?_
         simp only [sA, sB]
         clear HS
         refine ld fun W15 HS => ?_
         go_upto_region 19 with fail
         refine lnb HS.out rfl ?_
         refine lm 0 17 rfl rfl rfl rfl ?_
         simp only [sA, sB]
         refine lv 1 (.int .i64 0) rfl rfl (by intro x hx; go_simp; (first | done | exact rfl)) ?_
         simp only [sA, sB]
         refine lv 2 (.bool false) rfl rfl (by intro x hx; go_simp; (first | done | exact rfl)) ?_
         simp only [sA, sB]
         clear HS
         refine ld fun W16 HS => ?_
         go_upto_region 21 with fail
         refine lnb HS.out rfl ?_
         refine lm 0 11 rfl rfl rfl rfl ?_
         simp only [sA, sB]
         refine lv 1 (.pointer (some ⟨k3, 0, none⟩)) rfl rfl (by intro x hx; go_simp; (first | done | exact rfl)) ?_
         simp only [sA, sB]
         refine lv 2 (.pointer (some ⟨k3, r1, none⟩)) rfl rfl (by intro x hx; go_simp; first | (rw [if_pos (by omega)]; done) | (rw [if_pos (by omega)]; rfl) | (intro hq; exfalso; omega) | (simp; omega)) ?_
         simp only [sA, sB]
         refine lin_store (i := 3) (St w [⟨w.heap.size, [some (.int .u64 (tn (x0.lo))), some (.int .u64 (tn (x0.hi)))], 24⟩, ⟨w.heap.size + 1, [some (.int .u64 (tn (x1.lo))), some (.int .u64 (tn (x1.hi)))], 24⟩, ⟨w.heap.size + 2, [some (.int .u64 0), some (.int .u64 0)], 24⟩, ⟨k1, ((fnV 128 (two 64 (ofB x0).Z (ofB x0).O)).map some), 48⟩, ⟨k2, ((fnV 128 (two 64 (ofB x1).Z (ofB x1).O)).map some), 48⟩, ⟨k3, ((fnV 128 (upd (two 64 (upd (upto r1 (sumB maj3 (ofB x0) (ofB x1)).Z) r1 (someTo (fun p q c => !odd3 p q c) (ofB x0) (ofB x1) (cars maj3 (ofB x0) (ofB x1) r1) r1 5)) (upd (upto r1 (sumB maj3 (ofB x0) (ofB x1)).O) r1 (someTo odd3 (ofB x0) (ofB x1) (cars maj3 (ofB x0) (ofB x1) r1) r1 5))) r1 true)).map some), 48⟩, ⟨k4, [some (.bool ((cars maj3 (ofB x0) (ofB x1) r1).1)), some (.bool ((cars maj3 (ofB x0) (ofB x1) r1).2))], 60⟩, ⟨k5, [some (.bool ((someTo (fun p q c => !maj3 p q c) (ofB x0) (ofB x1) (cars maj3 (ofB x0) (ofB x1) r1) r1 5))), some (.bool ((someTo maj3 (ofB x0) (ofB x1) (cars maj3 (ofB x0) (ofB x1) r1) r1 5)))], 60⟩]) rfl rfl (by rfl) (fun x => x.setCell ⟨k3, r1, none⟩ (.bool true)) (by intro x hx; have z0 := hx.fn 5 (r1) rfl (by omega); have q0 := hx.soft 5 (r1) rfl; go_simp; (first | done | rfl)) (fun x hx => hx.fnset 5 (r1) true rfl) ?_
         clear HS
         refine ld fun W17 HS => ?_
         go_upto_region 22 with fail
         refine lnb HS.out rfl ?_
         refine lm 0 17 rfl rfl rfl rfl ?_
         simp only [sA, sB]
         refine lv 1 (.bool true) rfl rfl (by intro x hx; go_simp; (first | done | exact rfl)) ?_
         simp only [sA, sB]
         refine la 2 80 rfl rfl rfl rfl ?_
         simp only [sA, sB]
         clear HS
         refine ld fun W18 HS => ?_
         go_upto_region 23 with fail
         refine lnb HS.out rfl ?_
         refine lm 0 2 rfl rfl rfl rfl ?_
         simp only [sA, sB]
         clear HS
         refine ld fun W19 HS => ?_
         go_upto_region 25 with fail
         refine lnb HS.out rfl ?_
         refine lm 0 18 rfl rfl rfl rfl ?_
         simp only [sA, sB]
         clear HS
         refine ld fun W20 HS => ?_
         go_upto_region 26 with fail
         refine lnb HS.out rfl ?_
         refine lv 0 (.pointer (some ⟨k5, 1, none⟩)) rfl rfl (by intro x hx; go_simp; (first | done | exact rfl)) ?_
         simp only [sA, sB]
         refine ls 1 7 1 [.bool true] rfl rfl rfl (by intro x hx; obtain ⟨_, z0, q0⟩ := hx.at1 7 1 rfl; go_simp; (first | done | rfl)) ?_
         simp only [Blk.putC, setM, sA, sB]
         clear HS
         refine ld fun W21 HS => ?_
         go_upto_region 11 with fail
         refine lnb HS.out rfl ?_
         refine lm 0 13 rfl rfl rfl rfl ?_
         simp only [sA, sB]
         refine lv 1 (.int .i64 6) rfl rfl (by intro x hx; go_simp; (first | done | exact rfl)) ?_
         simp only [sA, sB]
         refine la 2 32 rfl rfl rfl rfl ?_
         simp only [sA, sB]
         clear HS
         refine ld fun W22 HS => ?_
         go_wp2
         exact ⟨hlt2, hid ⟨_, _, _, _, _, _, _, _, _, _, _, _, _, _, _, _, _, _, _, _, _, _, _, _, _, _, _, _, _, _, _, _, _, _, _, _, _, _, _, _, _, _, _, _, _, _, _, _, _, _, _, _, _, _, _, _, _, _, _, _, _, _, _, rfl, (by have h := HS.out; rw [upd_lo (by omega), upd_upd] at h; rw [to_true (f := (fun p q c => !odd3 p q c)) (x := (ofB x0)) (y := (ofB x1)) (c := (cars maj3 (ofB x0) (ofB x1) r1)) (r := r1) (k := 5) ((turn_yes (f := (fun p q c => !odd3 p q c)) (p := true) (q := false) (c := true) h1.out).trans rfl), to_same (f := odd3) (x := (ofB x0)) (y := (ofB x1)) (c := (cars maj3 (ofB x0) (ofB x1) r1)) (r := r1) (k := 5) ((turn_yes (f := odd3) (p := true) (q := false) (c := true) h1.out).trans rfl), to_same (f := (fun p q c => !maj3 p q c)) (x := (ofB x0)) (y := (ofB x1)) (c := (cars maj3 (ofB x0) (ofB x1) r1)) (r := r1) (k := 5) ((turn_yes (f := (fun p q c => !maj3 p q c)) (p := true) (q := false) (c := true) h1.out).trans rfl), to_true (f := maj3) (x := (ofB x0)) (y := (ofB x1)) (c := (cars maj3 (ofB x0) (ofB x1) r1)) (r := r1) (k := 5) ((turn_yes (f := maj3) (p := true) (q := false) (c := true) h1.out).trans rfl)]; exact h)⟩⟩
        ·replace h1 := hid h1
         go_upto_region 11 with fail
         refine lnb HS.out rfl ?_
         refine lm 0 13 rfl rfl rfl rfl ?_
         simp only [sA, sB]
         refine lv 1 (.int .i64 6) rfl rfl (by intro x hx; go_simp; (first | done | exact rfl)) ?_
         simp only [sA, sB]
         refine la 2 32 rfl rfl rfl rfl ?_
         simp only [sA, sB]
         clear HS
         refine ld fun W14 HS => ?_
         go_wp2
         exact ⟨hlt2, hid ⟨_, _, _, _, _, _, _, _, _, _, _, _, _, _, _, _, _, _, _, _, _, _, _, _, _, _, _, _, _, _, _, _, _, _, _, _, _, _, _, _, _, _, _, _, _, _, _, _, _, _, _, _, _, _, _, _, _, _, _, _, _, _, _, rfl, (by rw [to_same (f := (fun p q c => !odd3 p q c)) (x := (ofB x0)) (y := (ofB x1)) (c := (cars maj3 (ofB x0) (ofB x1) r1)) (r := r1) (k := 5) (turn_no (f := (fun p q c => !odd3 p q c)) (p := true) (q := false) (c := true) h1.out), to_same (f := odd3) (x := (ofB x0)) (y := (ofB x1)) (c := (cars maj3 (ofB x0) (ofB x1) r1)) (r := r1) (k := 5) (turn_no (f := odd3) (p := true) (q := false) (c := true) h1.out), to_same (f := (fun p q c => !maj3 p q c)) (x := (ofB x0)) (y := (ofB x1)) (c := (cars maj3 (ofB x0) (ofB x1) r1)) (r := r1) (k := 5) (turn_no (f := (fun p q c => !maj3 p q c)) (p := true) (q := false) (c := true) h1.out), to_same (f := maj3) (x := (ofB x0)) (y := (ofB x1)) (c := (cars maj3 (ofB x0) (ofB x1) r1)) (r := r1) (k := 5) (turn_no (f := maj3) (p := true) (q := false) (c := true) h1.out)]; exact HS.out)⟩⟩
      · rw [show ((6 : Nat) : Int) = 6 from rfl]
        go_upto_region 10 with fail
        refine lnb HS.out rfl ?_
        refine lm 0 13 rfl rfl rfl rfl ?_
        simp only [sA, sB]
        refine lv 1 (.bool true) rfl rfl (by intro x hx; go_simp; (first | done | exact rfl)) ?_
        simp only [sA, sB]
        clear HS
        refine ld fun W9 HS => ?_
        go_upto_region 12 with fail
        refine lnb HS.out rfl ?_
        refine lm 0 13 rfl rfl rfl rfl ?_
        simp only [sA, sB]
        refine lv 1 (.int .i64 0) rfl rfl (by intro x hx; go_simp; (first | done | exact rfl)) ?_
        simp only [sA, sB]
        refine la 2 34 rfl rfl rfl rfl ?_
        simp only [sA, sB]
        clear HS
        refine ld fun W10 HS => ?_
        go_upto_region 13 with fail
        refine lnb HS.out rfl ?_
        refine lm 0 13 rfl rfl rfl rfl ?_
        simp only [sA, sB]
        refine lv 1 (.int .i64 3) rfl rfl (by intro x hx; go_simp; (first | done | exact rfl)) ?_
        simp only [sA, sB]
        refine lv 2 (.int .i64 1) rfl rfl (by intro x hx; go_simp; (first | done | exact rfl)) ?_
        simp only [sA, sB]
        refine la 3 37 rfl rfl rfl rfl ?_
        simp only [sA, sB]
        clear HS
        refine ld fun W11 HS => ?_
        go_upto_region 14 with fail
        refine lnb HS.out rfl ?_
        refine lm 0 13 rfl rfl rfl rfl ?_
        simp only [sA, sB]
        refine lv 1 (.int .i64 1) rfl rfl (by intro x hx; go_simp; (first | done | exact rfl)) ?_
        simp only [sA, sB]
        refine la 2 39 rfl rfl rfl rfl ?_
        simp only [sA, sB]
        clear HS
        refine ld fun W12 HS => ?_
        go_upto_region 15 with fail
        refine lnb HS.out rfl ?_
        refine lv 0 (.agg (fnV 128 (two 64 (ofB x0).Z (ofB x0).O)).toArray) rfl rfl (by intro x hx; exact loadF hx 3 rfl rfl rfl (fun w => by kernel_rfl) (fun w => by kernel_rfl)) ?_
        simp only [sA, sB]
        refine lm 1 11 rfl rfl rfl rfl ?_
        simp only [sA, sB]
        refine lm 2 14 rfl rfl rfl rfl ?_
        simp only [sA, sB]
        refine lc 3 51 #[.agg (fnV 128 (two 64 (ofB x0).Z (ofB x0).O)).toArray, .int .i64 ((r1 : Nat) : Int), .int .i64 0] (.bool ((ofB x0).Z r1)) rfl rfl (by intro x hx; exact ref_may_0 (ofB x0) r1 (by omega) _) ?_
        simp only [sA, sB]
        refine lv 4 (.bool ((!((ofB x0).Z r1)))) rfl rfl (by intro x hx; go_simp; (first | done | exact rfl)) ?_
        simp only [sA, sB]
        refine lm 5 44 rfl rfl rfl rfl ?_
        simp only [sA, sB]
        refine lin_if (i := 6) (v := .agg (fnV 128 (two 64 (ofB x1).Z (ofB x1).O)).toArray) (!(!((ofB x0).Z r1))) rfl rfl (by generalize (!((ofB x0).Z r1)) = gg0; cases gg0 <;> rfl) (by intro hb; have hb159 := hid (show ((!((ofB x0).Z r1))) = false from nnb hb); intro x hx; (try simp only [hb]); (try simp only [cond_true]); exact loadF hx 4 rfl rfl rfl (fun w => by kernel_rfl) (fun w => by kernel_rfl)) ?_
        simp only [sA, sB]
        refine lin_if (i := 7) (v := .int .i64 ((r1 : Nat) : Int)) (!(!((ofB x0).Z r1))) rfl rfl (by generalize (!((ofB x0).Z r1)) = gg0; cases gg0 <;> rfl) (by intro hb; have hb160 := hid (show ((!((ofB x0).Z r1))) = false from nnb hb); intro x hx; (try simp only [hb]); (try simp only [cond_true]); go_simp; (first | done | exact rfl)) ?_
        simp only [sA, sB]
        refine lin_if (i := 8) (v := .int .i64 1) (!(!((ofB x0).Z r1))) rfl rfl (by generalize (!((ofB x0).Z r1)) = gg0; cases gg0 <;> rfl) (by intro hb; have hb161 := hid (show ((!((ofB x0).Z r1))) = false from nnb hb); intro x hx; (try simp only [hb]); (try simp only [cond_true]); go_simp; (first | done | exact rfl)) ?_
        simp only [sA, sB]
        refine lin_if_call (i := 9) (f := 51) (args := #[.agg (fnV 128 (two 64 (ofB x1).Z (ofB x1).O)).toArray, .int .i64 ((r1 : Nat) : Int), .int .i64 1]) (v := .bool ((ofB x1).O r1)) (!(!((ofB x0).Z r1))) (st_ups _ _) rfl rfl (by generalize (!((ofB x0).Z r1)) = gg0; cases gg0 <;> rfl) (by intro hb; have hb162 := hid (show ((!((ofB x0).Z r1))) = false from nnb hb); intro x hx; (try simp only [hb]); (try simp only [cond_true]); kernel_rfl) (by intro hb; have hb162 := hid (show ((!((ofB x0).Z r1))) = false from nnb hb); intro x hx; exact ref_may_1 (ofB x1) r1 (by omega) _) ?_
        simp only [sA, sB]
        refine lin_if (i := 10) (v := .bool ((!((ofB x1).O r1)))) (!(!((ofB x0).Z r1))) rfl rfl (by generalize (!((ofB x0).Z r1)) = gg0; cases gg0 <;> rfl) (by intro hb; have hb163 := hid (show ((!((ofB x0).Z r1))) = false from nnb hb); intro x hx; (try simp only [hb]); (try simp only [cond_true]); go_simp; (first | done | exact rfl)) ?_
        simp only [sA, sB]
        refine lv 11 (.bool ((bif (!((ofB x0).Z r1)) then true else (!((ofB x1).O r1))))) rfl rfl (by intro x hx; (cases hq : ((!((ofB x0).Z r1))) <;> first | rfl | (simp only [hq]; rfl) | simp [hq])) ?_
        simp only [sA, sB]
        refine lm 12 51 rfl rfl rfl rfl ?_
        simp only [sA, sB]
        refine lin_if (i := 13) (v := .int .i64 1) (!(bif (!((ofB x0).Z r1)) then true else (!((ofB x1).O r1)))) rfl rfl (by generalize (bif (!((ofB x0).Z r1)) then true else (!((ofB x1).O r1))) = gg0; cases gg0 <;> rfl) (by intro hb; have hb164 := hid (show ((bif (!((ofB x0).Z r1)) then true else (!((ofB x1).O r1)))) = false from nnb hb); intro x hx; (try simp only [hb]); (try simp only [cond_true]); go_simp; (first | done | exact rfl)) ?_
        simp only [sA, sB]
        refine lin_if (i := 14) (v := .pointer (some ⟨k4, 1, none⟩)) (!(bif (!((ofB x0).Z r1)) then true else (!((ofB x1).O r1)))) rfl rfl (by generalize (bif (!((ofB x0).Z r1)) then true else (!((ofB x1).O r1))) = gg0; cases gg0 <;> rfl) (by intro hb; have hb165 := hid (show ((bif (!((ofB x0).Z r1)) then true else (!((ofB x1).O r1)))) = false from nnb hb); intro x hx; (try simp only [hb]); (try simp only [cond_true]); go_simp; (first | done | exact rfl)) ?_
        simp only [sA, sB]
        refine lin_if (i := 15) (v := .bool ((cars maj3 (ofB x0) (ofB x1) r1).2)) (!(bif (!((ofB x0).Z r1)) then true else (!((ofB x1).O r1)))) rfl rfl (by generalize (bif (!((ofB x0).Z r1)) then true else (!((ofB x1).O r1))) = gg0; cases gg0 <;> rfl) (by intro hb; have hb166 := hid (show ((bif (!((ofB x0).Z r1)) then true else (!((ofB x1).O r1)))) = false from nnb hb); intro x hx; (try simp only [hb]); (try simp only [cond_true]); have f0 := hx.load 6 1 rfl rfl; go_simp; (first | done | exact rfl)) ?_
        simp only [sA, sB]
        refine lin_if (i := 16) (v := .bool ((!((cars maj3 (ofB x0) (ofB x1) r1).2)))) (!(bif (!((ofB x0).Z r1)) then true else (!((ofB x1).O r1)))) rfl rfl (by generalize (bif (!((ofB x0).Z r1)) then true else (!((ofB x1).O r1))) = gg0; cases gg0 <;> rfl) (by intro hb; have hb167 := hid (show ((bif (!((ofB x0).Z r1)) then true else (!((ofB x1).O r1)))) = false from nnb hb); intro x hx; (try simp only [hb]); (try simp only [cond_true]); go_simp; (first | done | exact rfl)) ?_
        simp only [sA, sB]
        refine lv 17 (.bool ((bif (bif (!((ofB x0).Z r1)) then true else (!((ofB x1).O r1))) then true else (!((cars maj3 (ofB x0) (ofB x1) r1).2))))) rfl rfl (by intro x hx; (cases hq : ((bif (!((ofB x0).Z r1)) then true else (!((ofB x1).O r1)))) <;> first | rfl | (simp only [hq]; rfl) | simp [hq])) ?_
        simp only [sA, sB]
        clear HS
        refine ld fun W13 HS => ?_
        cases h1 : ((bif (bif (!((ofB x0).Z r1)) then true else (!((ofB x1).O r1))) then true else (!((cars maj3 (ofB x0) (ofB x1) r1).2))))
        ·replace h1 := hid h1
         go_upto_region 16 with fail
         refine lnb HS.out rfl ?_
         refine lm 0 14 rfl rfl rfl rfl ?_
         simp only [sA, sB]
         refine lm 1 15 rfl rfl rfl rfl ?_
         simp only [sA, sB]
         refine lv 2 (.int .i64 1) rfl rfl (by intro x hx; go_simp; (first | done | exact rfl)) ?_
         simp only [sA, sB]
         refine lm 3 16 rfl rfl rfl rfl ?_
         simp only [sA, sB]
         refine lv 4 (.int .i64 2) rfl rfl (by intro x hx; go_simp; (first | done | exact rfl)) ?_
         simp only [sA, sB]
         refine la 5 62 rfl rfl rfl rfl ?_
         simp only [sA, sB]
         clear HS
         refine ld fun W14 HS => ?_
         go_upto_region 17 with fail
         refine lnb HS.out rfl ?_
         refine lm 0 2 rfl rfl rfl rfl ?_
         simp only [sA, sB]
         clear HS
         refine ld fun W15 HS => ?_
         go_upto_region 19 with fail
         refine lnb HS.out rfl ?_
         refine lm 0 17 rfl rfl rfl rfl ?_
         simp only [sA, sB]
         refine lv 1 (.int .i64 0) rfl rfl (by intro x hx; go_simp; (first | done | exact rfl)) ?_
         simp only [sA, sB]
         refine lv 2 (.bool false) rfl rfl (by intro x hx; go_simp; (first | done | exact rfl)) ?_
         simp only [sA, sB]
         clear HS
         refine ld fun W16 HS => ?_
         go_upto_region 21 with fail
         refine lnb HS.out rfl ?_
         refine lm 0 11 rfl rfl rfl rfl ?_
         simp only [sA, sB]
         refine lv 1 (.pointer (some ⟨k3, 0, none⟩)) rfl rfl (by intro x hx; go_simp; (first | done | exact rfl)) ?_
         simp only [sA, sB]
         refine lv 2 (.pointer (some ⟨k3, r1, none⟩)) rfl rfl (by intro x hx; go_simp; first | (rw [if_pos (by omega)]; done) | (rw [if_pos (by omega)]; rfl) | (intro hq; exfalso; omega) | (simp; omega)) ?_
         simp only [sA, sB]
         refine lin_store (i := 3) (St w [⟨w.heap.size, [some (.int .u64 (tn (x0.lo))), some (.int .u64 (tn (x0.hi)))], 24⟩, ⟨w.heap.size + 1, [some (.int .u64 (tn (x1.lo))), some (.int .u64 (tn (x1.hi)))], 24⟩, ⟨w.heap.size + 2, [some (.int .u64 0), some (.int .u64 0)], 24⟩, ⟨k1, ((fnV 128 (two 64 (ofB x0).Z (ofB x0).O)).map some), 48⟩, ⟨k2, ((fnV 128 (two 64 (ofB x1).Z (ofB x1).O)).map some), 48⟩, ⟨k3, ((fnV 128 (upd (two 64 (upd (upto r1 (sumB maj3 (ofB x0) (ofB x1)).Z) r1 (someTo (fun p q c => !odd3 p q c) (ofB x0) (ofB x1) (cars maj3 (ofB x0) (ofB x1) r1) r1 6)) (upd (upto r1 (sumB maj3 (ofB x0) (ofB x1)).O) r1 (someTo odd3 (ofB x0) (ofB x1) (cars maj3 (ofB x0) (ofB x1) r1) r1 6))) r1 true)).map some), 48⟩, ⟨k4, [some (.bool ((cars maj3 (ofB x0) (ofB x1) r1).1)), some (.bool ((cars maj3 (ofB x0) (ofB x1) r1).2))], 60⟩, ⟨k5, [some (.bool ((someTo (fun p q c => !maj3 p q c) (ofB x0) (ofB x1) (cars maj3 (ofB x0) (ofB x1) r1) r1 6))), some (.bool ((someTo maj3 (ofB x0) (ofB x1) (cars maj3 (ofB x0) (ofB x1) r1) r1 6)))], 60⟩]) rfl rfl (by rfl) (fun x => x.setCell ⟨k3, r1, none⟩ (.bool true)) (by intro x hx; have z0 := hx.fn 5 (r1) rfl (by omega); have q0 := hx.soft 5 (r1) rfl; go_simp; (first | done | rfl)) (fun x hx => hx.fnset 5 (r1) true rfl) ?_
         clear HS
         refine ld fun W17 HS => ?_
         go_upto_region 22 with fail
         refine lnb HS.out rfl ?_
         refine lm 0 17 rfl rfl rfl rfl ?_
         simp only [sA, sB]
         refine lv 1 (.bool true) rfl rfl (by intro x hx; go_simp; (first | done | exact rfl)) ?_
         simp only [sA, sB]
         refine la 2 80 rfl rfl rfl rfl ?_
         simp only [sA, sB]
         clear HS
         refine ld fun W18 HS => ?_
         go_upto_region 23 with fail
         refine lnb HS.out rfl ?_
         refine lm 0 2 rfl rfl rfl rfl ?_
         simp only [sA, sB]
         clear HS
         refine ld fun W19 HS => ?_
         go_upto_region 25 with fail
         refine lnb HS.out rfl ?_
         refine lm 0 18 rfl rfl rfl rfl ?_
         simp only [sA, sB]
         clear HS
         refine ld fun W20 HS => ?_
         go_upto_region 26 with fail
         refine lnb HS.out rfl ?_
         refine lv 0 (.pointer (some ⟨k5, 1, none⟩)) rfl rfl (by intro x hx; go_simp; (first | done | exact rfl)) ?_
         simp only [sA, sB]
         refine ls 1 7 1 [.bool true] rfl rfl rfl (by intro x hx; obtain ⟨_, z0, q0⟩ := hx.at1 7 1 rfl; go_simp; (first | done | rfl)) ?_
         simp only [Blk.putC, setM, sA, sB]
         clear HS
         refine ld fun W21 HS => ?_
         go_upto_region 11 with fail
         refine lnb HS.out rfl ?_
         refine lm 0 13 rfl rfl rfl rfl ?_
         simp only [sA, sB]
         refine lv 1 (.int .i64 7) rfl rfl (by intro x hx; go_simp; (first | done | exact rfl)) ?_
         simp only [sA, sB]
         refine la 2 32 rfl rfl rfl rfl ?_
         simp only [sA, sB]
         clear HS
         refine ld fun W22 HS => ?_
         go_wp2
         exact ⟨hlt2, hid ⟨_, _, _, _, _, _, _, _, _, _, _, _, _, _, _, _, _, _, _, _, _, _, _, _, _, _, _, _, _, _, _, _, _, _, _, _, _, _, _, _, _, _, _, _, _, _, _, _, _, _, _, _, _, _, _, _, _, _, _, _, _, _, _, rfl, (by have h := HS.out; rw [upd_lo (by omega), upd_upd] at h; rw [to_true (f := (fun p q c => !odd3 p q c)) (x := (ofB x0)) (y := (ofB x1)) (c := (cars maj3 (ofB x0) (ofB x1) r1)) (r := r1) (k := 6) ((turn_yes (f := (fun p q c => !odd3 p q c)) (p := false) (q := true) (c := true) h1.out).trans rfl), to_same (f := odd3) (x := (ofB x0)) (y := (ofB x1)) (c := (cars maj3 (ofB x0) (ofB x1) r1)) (r := r1) (k := 6) ((turn_yes (f := odd3) (p := false) (q := true) (c := true) h1.out).trans rfl), to_same (f := (fun p q c => !maj3 p q c)) (x := (ofB x0)) (y := (ofB x1)) (c := (cars maj3 (ofB x0) (ofB x1) r1)) (r := r1) (k := 6) ((turn_yes (f := (fun p q c => !maj3 p q c)) (p := false) (q := true) (c := true) h1.out).trans rfl), to_true (f := maj3) (x := (ofB x0)) (y := (ofB x1)) (c := (cars maj3 (ofB x0) (ofB x1) r1)) (r := r1) (k := 6) ((turn_yes (f := maj3) (p := false) (q := true) (c := true) h1.out).trans rfl)]; exact h)⟩⟩
        ·replace h1 := hid h1
         go_upto_region 11 with fail
         refine lnb HS.out rfl ?_
         refine lm 0 13 rfl rfl rfl rfl ?_
         simp only [sA, sB]
         refine lv 1 (.int .i64 7) rfl rfl (by intro x hx; go_simp; (first | done | exact rfl)) ?_
         simp only [sA, sB]
         refine la 2 32 rfl rfl rfl rfl ?_
         simp only [sA, sB]
         clear HS
         refine ld fun W14 HS => ?_
         go_wp2
         exact ⟨hlt2, hid ⟨_, _, _, _, _, _, _, _, _, _, _, _, _, _, _, _, _, _, _, _, _, _, _, _, _, _, _, _, _, _, _, _, _, _, _, _, _, _, _, _, _, _, _, _, _, _, _, _, _, _, _, _, _, _, _, _, _, _, _, _, _, _, _, rfl, (by rw [to_same (f := (fun p q c => !odd3 p q c)) (x := (ofB x0)) (y := (ofB x1)) (c := (cars maj3 (ofB x0) (ofB x1) r1)) (r := r1) (k := 6) (turn_no (f := (fun p q c => !odd3 p q c)) (p := false) (q := true) (c := true) h1.out), to_same (f := odd3) (x := (ofB x0)) (y := (ofB x1)) (c := (cars maj3 (ofB x0) (ofB x1) r1)) (r := r1) (k := 6) (turn_no (f := odd3) (p := false) (q := true) (c := true) h1.out), to_same (f := (fun p q c => !maj3 p q c)) (x := (ofB x0)) (y := (ofB x1)) (c := (cars maj3 (ofB x0) (ofB x1) r1)) (r := r1) (k := 6) (turn_no (f := (fun p q c => !maj3 p q c)) (p := false) (q := true) (c := true) h1.out), to_same (f := maj3) (x := (ofB x0)) (y := (ofB x1)) (c := (cars maj3 (ofB x0) (ofB x1) r1)) (r := r1) (k := 6) (turn_no (f := maj3) (p := false) (q := true) (c := true) h1.out)]; exact HS.out)⟩⟩
      · rw [show ((7 : Nat) : Int) = 7 from rfl]
        go_upto_region 10 with fail
        refine lnb HS.out rfl ?_
        refine lm 0 13 rfl rfl rfl rfl ?_
        simp only [sA, sB]
        refine lv 1 (.bool true) rfl rfl (by intro x hx; go_simp; (first | done | exact rfl)) ?_
        simp only [sA, sB]
        clear HS
        refine ld fun W9 HS => ?_
        go_upto_region 12 with fail
        refine lnb HS.out rfl ?_
        refine lm 0 13 rfl rfl rfl rfl ?_
        simp only [sA, sB]
        refine lv 1 (.int .i64 1) rfl rfl (by intro x hx; go_simp; (first | done | exact rfl)) ?_
        simp only [sA, sB]
        refine la 2 34 rfl rfl rfl rfl ?_
        simp only [sA, sB]
        clear HS
        refine ld fun W10 HS => ?_
        go_upto_region 13 with fail
        refine lnb HS.out rfl ?_
        refine lm 0 13 rfl rfl rfl rfl ?_
        simp only [sA, sB]
        refine lv 1 (.int .i64 3) rfl rfl (by intro x hx; go_simp; (first | done | exact rfl)) ?_
        simp only [sA, sB]
        refine lv 2 (.int .i64 1) rfl rfl (by intro x hx; go_simp; (first | done | exact rfl)) ?_
        simp only [sA, sB]
        refine la 3 37 rfl rfl rfl rfl ?_
        simp only [sA, sB]
        clear HS
        refine ld fun W11 HS => ?_
        go_upto_region 14 with fail
        refine lnb HS.out rfl ?_
        refine lm 0 13 rfl rfl rfl rfl ?_
        simp only [sA, sB]
        refine lv 1 (.int .i64 1) rfl rfl (by intro x hx; go_simp; (first | done | exact rfl)) ?_
        simp only [sA, sB]
        refine la 2 39 rfl rfl rfl rfl ?_
        simp only [sA, sB]
        clear HS
        refine ld fun W12 HS => ?_
        go_upto_region 15 with fail
        refine lnb HS.out rfl ?_
        refine lv 0 (.agg (fnV 128 (two 64 (ofB x0).Z (ofB x0).O)).toArray) rfl rfl (by intro x hx; exact loadF hx 3 rfl rfl rfl (fun w => by kernel_rfl) (fun w => by kernel_rfl)) ?_
        simp only [sA, sB]
        refine lm 1 11 rfl rfl rfl rfl ?_
        simp only [sA, sB]
        refine lm 2 14 rfl rfl rfl rfl ?_
        simp only [sA, sB]
        refine lc 3 51 #[.agg (fnV 128 (two 64 (ofB x0).Z (ofB x0).O)).toArray, .int .i64 ((r1 : Nat) : Int), .int .i64 1] (.bool ((ofB x0).O r1)) rfl rfl (by intro x hx; exact ref_may_1 (ofB x0) r1 (by omega) _) ?_
        simp only [sA, sB]
        refine lv 4 (.bool ((!((ofB x0).O r1)))) rfl rfl (by intro x hx; go_simp; (first | done | exact rfl)) ?_
        simp only [sA, sB]
        refine lm 5 44 rfl rfl rfl rfl ?_
        simp only [sA, sB]
        refine lin_if (i := 6) (v := .agg (fnV 128 (two 64 (ofB x1).Z (ofB x1).O)).toArray) (!(!((ofB x0).O r1))) rfl rfl (by generalize (!((ofB x0).O r1)) = gg0; cases gg0 <;> rfl) (by intro hb; have hb168 := hid (show ((!((ofB x0).O r1))) = false from nnb hb); intro x hx; (try simp only [hb]); (try simp only [cond_true]); exact loadF hx 4 rfl rfl rfl (fun w => by kernel_rfl) (fun w => by kernel_rfl)) ?_
        simp only [sA, sB]
        refine lin_if (i := 7) (v := .int .i64 ((r1 : Nat) : Int)) (!(!((ofB x0).O r1))) rfl rfl (by generalize (!((ofB x0).O r1)) = gg0; cases gg0 <;> rfl) (by intro hb; have hb169 := hid (show ((!((ofB x0).O r1))) = false from nnb hb); intro x hx; (try simp only [hb]); (try simp only [cond_true]); go_simp; (first | done | exact rfl)) ?_
        simp only [sA, sB]
        refine lin_if (i := 8) (v := .int .i64 1) (!(!((ofB x0).O r1))) rfl rfl (by generalize (!((ofB x0).O r1)) = gg0; cases gg0 <;> rfl) (by intro hb; have hb170 := hid (show ((!((ofB x0).O r1))) = false from nnb hb); intro x hx; (try simp only [hb]); (try simp only [cond_true]); go_simp; (first | done | exact rfl)) ?_
        simp only [sA, sB]
        refine lin_if_call (i := 9) (f := 51) (args := #[.agg (fnV 128 (two 64 (ofB x1).Z (ofB x1).O)).toArray, .int .i64 ((r1 : Nat) : Int), .int .i64 1]) (v := .bool ((ofB x1).O r1)) (!(!((ofB x0).O r1))) (st_ups _ _) rfl rfl (by generalize (!((ofB x0).O r1)) = gg0; cases gg0 <;> rfl) (by intro hb; have hb171 := hid (show ((!((ofB x0).O r1))) = false from nnb hb); intro x hx; (try simp only [hb]); (try simp only [cond_true]); kernel_rfl) (by intro hb; have hb171 := hid (show ((!((ofB x0).O r1))) = false from nnb hb); intro x hx; exact ref_may_1 (ofB x1) r1 (by omega) _) ?_
        simp only [sA, sB]
        refine lin_if (i := 10) (v := .bool ((!((ofB x1).O r1)))) (!(!((ofB x0).O r1))) rfl rfl (by generalize (!((ofB x0).O r1)) = gg0; cases gg0 <;> rfl) (by intro hb; have hb172 := hid (show ((!((ofB x0).O r1))) = false from nnb hb); intro x hx; (try simp only [hb]); (try simp only [cond_true]); go_simp; (first | done | exact rfl)) ?_
        simp only [sA, sB]
        refine lv 11 (.bool ((bif (!((ofB x0).O r1)) then true else (!((ofB x1).O r1))))) rfl rfl (by intro x hx; (cases hq : ((!((ofB x0).O r1))) <;> first | rfl | (simp only [hq]; rfl) | simp [hq])) ?_
        simp only [sA, sB]
        refine lm 12 51 rfl rfl rfl rfl ?_
        simp only [sA, sB]
        refine lin_if (i := 13) (v := .int .i64 1) (!(bif (!((ofB x0).O r1)) then true else (!((ofB x1).O r1)))) rfl rfl (by generalize (bif (!((ofB x0).O r1)) then true else (!((ofB x1).O r1))) = gg0; cases gg0 <;> rfl) (by intro hb; have hb173 := hid (show ((bif (!((ofB x0).O r1)) then true else (!((ofB x1).O r1)))) = false from nnb hb); intro x hx; (try simp only [hb]); (try simp only [cond_true]); go_simp; (first | done | exact rfl)) ?_
        simp only [sA, sB]
        refine lin_if (i := 14) (v := .pointer (some ⟨k4, 1, none⟩)) (!(bif (!((ofB x0).O r1)) then true else (!((ofB x1).O r1)))) rfl rfl (by generalize (bif (!((ofB x0).O r1)) then true else (!((ofB x1).O r1))) = gg0; cases gg0 <;> rfl) (by intro hb; have hb174 := hid (show ((bif (!((ofB x0).O r1)) then true else (!((ofB x1).O r1)))) = false from nnb hb); intro x hx; (try simp only [hb]); (try simp only [cond_true]); go_simp; (first | done | exact rfl)) ?_
        simp only [sA, sB]
        refine lin_if (i := 15) (v := .bool ((cars maj3 (ofB x0) (ofB x1) r1).2)) (!(bif (!((ofB x0).O r1)) then true else (!((ofB x1).O r1)))) rfl rfl (by generalize (bif (!((ofB x0).O r1)) then true else (!((ofB x1).O r1))) = gg0; cases gg0 <;> rfl) (by intro hb; have hb175 := hid (show ((bif (!((ofB x0).O r1)) then true else (!((ofB x1).O r1)))) = false from nnb hb); intro x hx; (try simp only [hb]); (try simp only [cond_true]); have f0 := hx.load 6 1 rfl rfl; go_simp; (first | done | exact rfl)) ?_
        simp only [sA, sB]
        refine lin_if (i := 16) (v := .bool ((!((cars maj3 (ofB x0) (ofB x1) r1).2)))) (!(bif (!((ofB x0).O r1)) then true else (!((ofB x1).O r1)))) rfl rfl (by generalize (bif (!((ofB x0).O r1)) then true else (!((ofB x1).O r1))) = gg0; cases gg0 <;> rfl) (by intro hb; have hb176 := hid (show ((bif (!((ofB x0).O r1)) then true else (!((ofB x1).O r1)))) = false from nnb hb); intro x hx; (try simp only [hb]); (try simp only [cond_true]); go_simp; (first | done | exact rfl)) ?_
        simp only [sA, sB]
        refine lv 17 (.bool ((bif (bif (!((ofB x0).O r1)) then true else (!((ofB x1).O r1))) then true else (!((cars maj3 (ofB x0) (ofB x1) r1).2))))) rfl rfl (by intro x hx; (cases hq : ((bif (!((ofB x0).O r1)) then true else (!((ofB x1).O r1)))) <;> first | rfl | (simp only [hq]; rfl) | simp [hq])) ?_
        simp only [sA, sB]
        clear HS
        refine ld fun W13 HS => ?_
        cases h1 : ((bif (bif (!((ofB x0).O r1)) then true else (!((ofB x1).O r1))) then true else (!((cars maj3 (ofB x0) (ofB x1) r1).2))))
        ·replace h1 := hid h1
         go_upto_region 16 with fail
         refine lnb HS.out rfl ?_
         refine lm 0 14 rfl rfl rfl rfl ?_
         simp only [sA, sB]
         refine lm 1 15 rfl rfl rfl rfl ?_
         simp only [sA, sB]
         refine lv 2 (.int .i64 2) rfl rfl (by intro x hx; go_simp; (first | done | exact rfl)) ?_
         simp only [sA, sB]
         refine lm 3 16 rfl rfl rfl rfl ?_
         simp only [sA, sB]
         refine lv 4 (.int .i64 3) rfl rfl (by intro x hx; go_simp; (first | done | exact rfl)) ?_
         simp only [sA, sB]
         refine la 5 62 rfl rfl rfl rfl ?_
         simp only [sA, sB]
         clear HS
         refine ld fun W14 HS => ?_
         go_upto_region 17 with fail
         refine lnb HS.out rfl ?_
         refine lm 0 2 rfl rfl rfl rfl ?_
         simp only [sA, sB]
         clear HS
         refine ld fun W15 HS => ?_
         go_upto_region 19 with fail
         refine lnb HS.out rfl ?_
         refine lm 0 17 rfl rfl rfl rfl ?_
         simp only [sA, sB]
         refine lv 1 (.int .i64 1) rfl rfl (by intro x hx; go_simp; (first | done | exact rfl)) ?_
         simp only [sA, sB]
         refine lv 2 (.bool true) rfl rfl (by intro x hx; go_simp; (first | done | exact rfl)) ?_
         simp only [sA, sB]
         clear HS
         refine ld fun W16 HS => ?_
         go_upto_region 20 with fail
         refine lnb HS.out rfl ?_
         refine lm 0 11 rfl rfl rfl rfl ?_
         simp only [sA, sB]
         refine lv 1 (.pointer (some ⟨k3, 64, none⟩)) rfl rfl (by intro x hx; go_simp; (first | done | exact rfl)) ?_
         simp only [sA, sB]
         refine lv 2 (.pointer (some ⟨k3, 64 + r1, none⟩)) rfl rfl (by intro x hx; go_simp; first | (rw [if_pos (by omega)]; done) | (rw [if_pos (by omega)]; rfl) | (intro hq; exfalso; omega) | (simp; omega)) ?_
         simp only [sA, sB]
         refine lin_store (i := 3) (St w [⟨w.heap.size, [some (.int .u64 (tn (x0.lo))), some (.int .u64 (tn (x0.hi)))], 24⟩, ⟨w.heap.size + 1, [some (.int .u64 (tn (x1.lo))), some (.int .u64 (tn (x1.hi)))], 24⟩, ⟨w.heap.size + 2, [some (.int .u64 0), some (.int .u64 0)], 24⟩, ⟨k1, ((fnV 128 (two 64 (ofB x0).Z (ofB x0).O)).map some), 48⟩, ⟨k2, ((fnV 128 (two 64 (ofB x1).Z (ofB x1).O)).map some), 48⟩, ⟨k3, ((fnV 128 (upd (two 64 (upd (upto r1 (sumB maj3 (ofB x0) (ofB x1)).Z) r1 (someTo (fun p q c => !odd3 p q c) (ofB x0) (ofB x1) (cars maj3 (ofB x0) (ofB x1) r1) r1 7)) (upd (upto r1 (sumB maj3 (ofB x0) (ofB x1)).O) r1 (someTo odd3 (ofB x0) (ofB x1) (cars maj3 (ofB x0) (ofB x1) r1) r1 7))) (64 + r1) true)).map some), 48⟩, ⟨k4, [some (.bool ((cars maj3 (ofB x0) (ofB x1) r1).1)), some (.bool ((cars maj3 (ofB x0) (ofB x1) r1).2))], 60⟩, ⟨k5, [some (.bool ((someTo (fun p q c => !maj3 p q c) (ofB x0) (ofB x1) (cars maj3 (ofB x0) (ofB x1) r1) r1 7))), some (.bool ((someTo maj3 (ofB x0) (ofB x1) (cars maj3 (ofB x0) (ofB x1) r1) r1 7)))], 60⟩]) rfl rfl (by rfl) (fun x => x.setCell ⟨k3, 64 + r1, none⟩ (.bool true)) (by intro x hx; have z0 := hx.fn 5 (64 + r1) rfl (by omega); have q0 := hx.soft 5 (64 + r1) rfl; go_simp; (first | done | rfl)) (fun x hx => hx.fnset 5 (64 + r1) true rfl) ?_
         clear HS
         refine ld fun W17 HS => ?_
         go_upto_region 22 with fail
         refine lnb HS.out rfl ?_
         refine lm 0 17 rfl rfl rfl rfl ?_
         simp only [sA, sB]
         refine lv 1 (.bool true) rfl rfl (by intro x hx; go_simp; (first | done | exact rfl)) ?_
         simp only [sA, sB]
         refine la 2 80 rfl rfl rfl rfl ?_
         simp only [sA, sB]
         clear HS
         refine ld fun W18 HS => ?_
         go_upto_region 23 with fail
         refine lnb HS.out rfl ?_
         refine lm 0 2 rfl rfl rfl rfl ?_
         simp only [sA, sB]
         clear HS
         refine ld fun W19 HS => ?_
         go_upto_region 25 with fail
         refine lnb HS.out rfl ?_
         refine lm 0 18 rfl rfl rfl rfl ?_
         simp only [sA, sB]
         clear HS
         refine ld fun W20 HS => ?_
         go_upto_region 26 with fail
         refine lnb HS.out rfl ?_
         refine lv 0 (.pointer (some ⟨k5, 1, none⟩)) rfl rfl (by intro x hx; go_simp; (first | done | exact rfl)) ?_
         simp only [sA, sB]
         refine ls 1 7 1 [.bool true] rfl rfl rfl (by intro x hx; obtain ⟨_, z0, q0⟩ := hx.at1 7 1 rfl; go_simp; (first | done | rfl)) ?_
         simp only [Blk.putC, setM, sA, sB]
         clear HS
         refine ld fun W21 HS => ?_
         go_upto_region 11 with fail
         refine lnb HS.out rfl ?_
         refine lm 0 13 rfl rfl rfl rfl ?_
         simp only [sA, sB]
         refine lv 1 (.int .i64 8) rfl rfl (by intro x hx; go_simp; (first | done | exact rfl)) ?_
         simp only [sA, sB]
         refine la 2 32 rfl rfl rfl rfl ?_
         simp only [sA, sB]
         clear HS
         refine ld fun W22 HS => ?_
         go_wp2
         exact ⟨hlt2, hid ⟨_, _, _, _, _, _, _, _, _, _, _, _, _, _, _, _, _, _, _, _, _, _, _, _, _, _, _, _, _, _, _, _, _, _, _, _, _, _, _, _, _, _, _, _, _, _, _, _, _, _, _, _, _, _, _, _, _, _, _, _, _, _, _, rfl, (by have h := HS.out; rw [upd_hi, upd_upd] at h; rw [to_same (f := (fun p q c => !odd3 p q c)) (x := (ofB x0)) (y := (ofB x1)) (c := (cars maj3 (ofB x0) (ofB x1) r1)) (r := r1) (k := 7) ((turn_yes (f := (fun p q c => !odd3 p q c)) (p := true) (q := true) (c := true) h1.out).trans rfl), to_true (f := odd3) (x := (ofB x0)) (y := (ofB x1)) (c := (cars maj3 (ofB x0) (ofB x1) r1)) (r := r1) (k := 7) ((turn_yes (f := odd3) (p := true) (q := true) (c := true) h1.out).trans rfl), to_same (f := (fun p q c => !maj3 p q c)) (x := (ofB x0)) (y := (ofB x1)) (c := (cars maj3 (ofB x0) (ofB x1) r1)) (r := r1) (k := 7) ((turn_yes (f := (fun p q c => !maj3 p q c)) (p := true) (q := true) (c := true) h1.out).trans rfl), to_true (f := maj3) (x := (ofB x0)) (y := (ofB x1)) (c := (cars maj3 (ofB x0) (ofB x1) r1)) (r := r1) (k := 7) ((turn_yes (f := maj3) (p := true) (q := true) (c := true) h1.out).trans rfl)]; exact h)⟩⟩
        ·replace h1 := hid h1
         go_upto_region 11 with fail
         refine lnb HS.out rfl ?_
         refine lm 0 13 rfl rfl rfl rfl ?_
         simp only [sA, sB]
         refine lv 1 (.int .i64 8) rfl rfl (by intro x hx; go_simp; (first | done | exact rfl)) ?_
         simp only [sA, sB]
         refine la 2 32 rfl rfl rfl rfl ?_
         simp only [sA, sB]
         clear HS
         refine ld fun W14 HS => ?_
         go_wp2
         exact ⟨hlt2, hid ⟨_, _, _, _, _, _, _, _, _, _, _, _, _, _, _, _, _, _, _, _, _, _, _, _, _, _, _, _, _, _, _, _, _, _, _, _, _, _, _, _, _, _, _, _, _, _, _, _, _, _, _, _, _, _, _, _, _, _, _, _, _, _, _, rfl, (by rw [to_same (f := (fun p q c => !odd3 p q c)) (x := (ofB x0)) (y := (ofB x1)) (c := (cars maj3 (ofB x0) (ofB x1) r1)) (r := r1) (k := 7) (turn_no (f := (fun p q c => !odd3 p q c)) (p := true) (q := true) (c := true) h1.out), to_same (f := odd3) (x := (ofB x0)) (y := (ofB x1)) (c := (cars maj3 (ofB x0) (ofB x1) r1)) (r := r1) (k := 7) (turn_no (f := odd3) (p := true) (q := true) (c := true) h1.out), to_same (f := (fun p q c => !maj3 p q c)) (x := (ofB x0)) (y := (ofB x1)) (c := (cars maj3 (ofB x0) (ofB x1) r1)) (r := r1) (k := 7) (turn_no (f := (fun p q c => !maj3 p q c)) (p := true) (q := true) (c := true) h1.out), to_same (f := maj3) (x := (ofB x0)) (y := (ofB x1)) (c := (cars maj3 (ofB x0) (ofB x1) r1)) (r := r1) (k := 7) (turn_no (f := maj3) (p := true) (q := true) (c := true) h1.out)]; exact HS.out)⟩⟩
    · have hN2 := hid (show r2 = 8 by omega)
      replace HS := hid (show St w [⟨w.heap.size, [some (.int .u64 (tn (x0.lo))), some (.int .u64 (tn (x0.hi)))], 24⟩, ⟨w.heap.size + 1, [some (.int .u64 (tn (x1.lo))), some (.int .u64 (tn (x1.hi)))], 24⟩, ⟨w.heap.size + 2, [some (.int .u64 0), some (.int .u64 0)], 24⟩, ⟨k1, ((fnV 128 (two 64 (ofB x0).Z (ofB x0).O)).map some), 48⟩, ⟨k2, ((fnV 128 (two 64 (ofB x1).Z (ofB x1).O)).map some), 48⟩, ⟨k3, ((fnV 128 (two 64 (upto (r1 + 1) (sumB maj3 (ofB x0) (ofB x1)).Z) (upto (r1 + 1) (sumB maj3 (ofB x0) (ofB x1)).O))).map some), 48⟩, ⟨k4, [some (.bool ((cars maj3 (ofB x0) (ofB x1) r1).1)), some (.bool ((cars maj3 (ofB x0) (ofB x1) r1).2))], 60⟩, ⟨k5, [some (.bool ((someTo (fun p q c => !maj3 p q c) (ofB x0) (ofB x1) (cars maj3 (ofB x0) (ofB x1) r1) r1 8))), some (.bool ((someTo maj3 (ofB x0) (ofB x1) (cars maj3 (ofB x0) (ofB x1) r1) r1 8)))], 60⟩] W from (by have h := HS.out; rw [hN2.out, upto_next (F := (sumB maj3 (ofB x0) (ofB x1)).Z) (show (someTo (fun p q c => !odd3 p q c) (ofB x0) (ofB x1) (cars maj3 (ofB x0) (ofB x1) r1) r1 8) = (sumB maj3 (ofB x0) (ofB x1)).Z r1 from rfl), upto_next (F := (sumB maj3 (ofB x0) (ofB x1)).O) (show (someTo odd3 (ofB x0) (ofB x1) (cars maj3 (ofB x0) (ofB x1) r1) r1 8) = (sumB maj3 (ofB x0) (ofB x1)).O r1 from rfl)] at h; exact h))
      go_upto_region 10 with fail
      refine lnb HS.out rfl ?_
      refine lm 0 13 rfl rfl rfl rfl ?_
      simp only [sA, sB]
      refine lv 1 (.bool false) rfl rfl (by intro x hx; go_simp; (first | done | omega | (simp; omega))) ?_
      simp only [sA, sB]
      clear HS
      refine ld fun W9 HS => ?_
      go_upto_region 28 with fail
      refine lnb HS.out rfl ?_
      refine lv 0 (.agg #[.bool ((someTo (fun p q c => !maj3 p q c) (ofB x0) (ofB x1) (cars maj3 (ofB x0) (ofB x1) r1) r1 8)), .bool ((someTo maj3 (ofB x0) (ofB x1) (cars maj3 (ofB x0) (ofB x1) r1) r1 8))]) rfl rfl (by intro x hx; obtain ⟨f0, f1⟩ := hx.two 7 0 rfl rfl; go_simp; (first | done | exact rfl)) ?_
      simp only [sA, sB]
      refine ls 1 6 0 [.bool ((someTo (fun p q c => !maj3 p q c) (ofB x0) (ofB x1) (cars maj3 (ofB x0) (ofB x1) r1) r1 8)), .bool ((someTo maj3 (ofB x0) (ofB x1) (cars maj3 (ofB x0) (ofB x1) r1) r1 8))] rfl rfl rfl (by intro x hx; obtain ⟨⟨_, z0, q0⟩, ⟨_, z1, q1⟩⟩ := hx.at2 6 0 rfl; go_simp; (first | done | rfl)) ?_
      simp only [Blk.putC, setM, sA, sB]
      clear HS
      refine ld fun W10 HS => ?_
      go_upto_region 7 with fail
      refine lnb HS.out rfl ?_
      refine lm 0 11 rfl rfl rfl rfl ?_
      simp only [sA, sB]
      refine lv 1 (.int .i64 ((r1 + 1 : Nat) : Int)) rfl rfl (by intro x hx; go_simp; (first | done | exact addN r1 1 (by omega) | exact congrArg _ (addN r1 1 (by omega)) | (rw [addN r1 1 (by omega)]; done) | (rw [addN r1 1 (by omega)]; rfl))) ?_
      simp only [sA, sB]
      refine la 2 27 rfl rfl rfl rfl ?_
      simp only [sA, sB]
      clear HS
      refine ld fun W11 HS => ?_
      go_wp2
      exact ⟨hlt1, hid ⟨_, _, _, _, _, _, _, _, _, _, _, _, _, _, _, _, _, _, _, _, _, _, _, _, _, _, _, _, _, _, _, _, _, _, _, _, _, _, _, _, _, _, _, _, _, _, _, _, _, _, _, _, _, _, _, _, _, _, _, _, _, _, _, _, _, _, _, _, _, _, _, rfl, (St.fewer (m := [_]) HS.out)⟩⟩
  · have hN1 := hid (show r1 = 64 by omega)
    replace HS := hid (show St w [⟨w.heap.size, [some (.int .u64 (tn (x0.lo))), some (.int .u64 (tn (x0.hi)))], 24⟩, ⟨w.heap.size + 1, [some (.int .u64 (tn (x1.lo))), some (.int .u64 (tn (x1.hi)))], 24⟩, ⟨w.heap.size + 2, [some (.int .u64 0), some (.int .u64 0)], 24⟩, ⟨k1, ((fnV 128 (two 64 (ofB x0).Z (ofB x0).O)).map some), 48⟩, ⟨k2, ((fnV 128 (two 64 (ofB x1).Z (ofB x1).O)).map some), 48⟩, ⟨k3, ((fnV 128 (two 64 (sumB maj3 (ofB x0) (ofB x1)).Z (sumB maj3 (ofB x0) (ofB x1)).O)).map some), 48⟩, ⟨k4, [some (.bool ((cars maj3 (ofB x0) (ofB x1) 64).1)), some (.bool ((cars maj3 (ofB x0) (ofB x1) 64).2))], 60⟩] W from (by have h := HS.out; rw [hN1.out, bits_all] at h; exact h))
    go_upto_region 6 with fail
    refine lnb HS.out rfl ?_
    refine lm 0 11 rfl rfl rfl rfl ?_
    simp only [sA, sB]
    refine lv 1 (.bool false) rfl rfl (by intro x hx; go_simp; (first | done | omega | (simp; omega))) ?_
    simp only [sA, sB]
    clear HS
    refine ld fun W6 HS => ?_
    go_upto_region 29 with fail
    refine lnb HS.out rfl ?_
    refine lv 0 (.agg (fnV 128 (two 64 (sumB maj3 (ofB x0) (ofB x1)).Z (sumB maj3 (ofB x0) (ofB x1)).O)).toArray) rfl rfl (by intro x hx; exact loadF hx 5 rfl rfl rfl (fun w => by kernel_rfl) (fun w => by kernel_rfl)) ?_
    simp only [sA, sB]
    refine lc 1 44 #[.agg (fnV 128 (two 64 (sumB maj3 (ofB x0) (ofB x1)).Z (sumB maj3 (ofB x0) (ofB x1)).O)).toArray] (vU (tnumB (sumB maj3 (ofB x0) (ofB x1)))) rfl rfl (by intro x hx; exact ref_Tnum_any (sumB maj3 (ofB x0) (ofB x1)) _) ?_
    simp only [sA, sB, vU]
    refine ls 2 2 0 (cU (tnumB (sumB maj3 (ofB x0) (ofB x1)))) rfl rfl rfl (by intro x hx; obtain ⟨⟨_, z0, q0⟩, ⟨_, z1, q1⟩⟩ := hx.at2 2 0 rfl; go_simp; (first | done | rfl)) ?_
    simp only [Blk.putC, setM, cU, sA, sB]
    clear HS
    refine ld fun W7 HS => ?_
    go_wp2
    obtain ⟨r0, r1⟩ := HS.out.two 2 0 rfl rfl
    exact bodyPost_ret (v := vU (tnumB (sumB maj3 (ofB x0) (ofB x1)))) (by simp [results, Tryd.results45, go_sem, r0, r1, vU]) rfl ⟨rfl, HS.out.below⟩
end Go.Proofs.YtpbhfpogbndljaaDoor.Rt
