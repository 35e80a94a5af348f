/-
  The walk of the law InsnChecks: an instruction, an opcode and an imm are told what the document says.
-/
import Derived.Test.YtgjplefpkcdhhaaLawK
import Derived.Test.YtgjplefpkcdhhaaDevCheck
import Derived.Deep.RegionHeld3
namespace Go.Proofs.Ytgjplefpkcdhhaa.Insn
open Go.RowKit Go.Proofs.Ytgjplefpkcdhhaa.Num
theorem hc_dev (W : World) (X : Nat) (op d s o m c : Int) (hX : X < W.heap.size) (h : ∀ w, Calls Try.prog 11 #[.agg #[.int .i64 op, .int .i64 d, .int .i64 s, .int .i64 o, .int .i64 m]] w fun e w' => e = .returned (.int .i64 c) ∧ Below w.heap.size w w') (w1 : World) (hS : (w1.cell? ⟨X, 0, none⟩ = some (.int .i64 op) ∧ w1.cell? ⟨X, 1, none⟩ = some (.int .i64 d) ∧ w1.cell? ⟨X, 2, none⟩ = some (.int .i64 s) ∧ w1.cell? ⟨X, 3, none⟩ = some (.int .i64 o) ∧ w1.cell? ⟨X, 4, none⟩ = some (.int .i64 m) ∧ Below W.heap.size W w1)) :
    Calls Try.prog 11 #[.agg #[.int .i64 op, .int .i64 d, .int .i64 s, .int .i64 o, .int .i64 m]] w1 fun e w2 => e = .returned (.int .i64 c) ∧ (w2.cell? ⟨X, 0, none⟩ = some (.int .i64 op) ∧ w2.cell? ⟨X, 1, none⟩ = some (.int .i64 d) ∧ w2.cell? ⟨X, 2, none⟩ = some (.int .i64 s) ∧ w2.cell? ⟨X, 3, none⟩ = some (.int .i64 o) ∧ w2.cell? ⟨X, 4, none⟩ = some (.int .i64 m) ∧ Below W.heap.size W w2) :=
  (h w1).mono fun _ _ ⟨e, hb⟩ => ⟨e, chS_up hX hS hb⟩
theorem hc_ref (W : World) (X : Nat) (op d s o m c : Int) (hX : X < W.heap.size) (h : ∀ w, Calls Try.prog 12 #[.agg #[.int .i64 op, .int .i64 d, .int .i64 s, .int .i64 o, .int .i64 m]] w fun e w' => e = .returned (.int .i64 c) ∧ Below w.heap.size w w') (w1 : World) (hS : (w1.cell? ⟨X, 0, none⟩ = some (.int .i64 op) ∧ w1.cell? ⟨X, 1, none⟩ = some (.int .i64 d) ∧ w1.cell? ⟨X, 2, none⟩ = some (.int .i64 s) ∧ w1.cell? ⟨X, 3, none⟩ = some (.int .i64 o) ∧ w1.cell? ⟨X, 4, none⟩ = some (.int .i64 m) ∧ Below W.heap.size W w1)) :
    Calls Try.prog 12 #[.agg #[.int .i64 op, .int .i64 d, .int .i64 s, .int .i64 o, .int .i64 m]] w1 fun e w2 => e = .returned (.int .i64 c) ∧ (w2.cell? ⟨X, 0, none⟩ = some (.int .i64 op) ∧ w2.cell? ⟨X, 1, none⟩ = some (.int .i64 d) ∧ w2.cell? ⟨X, 2, none⟩ = some (.int .i64 s) ∧ w2.cell? ⟨X, 3, none⟩ = some (.int .i64 o) ∧ w2.cell? ⟨X, 4, none⟩ = some (.int .i64 m) ∧ Below W.heap.size W w2) :=
  (h w1).mono fun _ _ ⟨e, hb⟩ => ⟨e, chS_up hX hS hb⟩
theorem hs_ref (W : World) (X : Nat) (op d s o m c : Int) (hX : X < W.heap.size) (h : ∀ w, Calls Try.prog 16 #[.int .i64 op] w fun e w' => e = .returned (.int .i64 c) ∧ Below w.heap.size w w') (w1 : World) (hS : (w1.cell? ⟨X, 0, none⟩ = some (.int .i64 op) ∧ w1.cell? ⟨X, 1, none⟩ = some (.int .i64 d) ∧ w1.cell? ⟨X, 2, none⟩ = some (.int .i64 s) ∧ w1.cell? ⟨X, 3, none⟩ = some (.int .i64 o) ∧ w1.cell? ⟨X, 4, none⟩ = some (.int .i64 m) ∧ Below W.heap.size W w1)) :
    Calls Try.prog 16 #[.int .i64 op] w1 fun e w2 => e = .returned (.int .i64 c) ∧ (w2.cell? ⟨X, 0, none⟩ = some (.int .i64 op) ∧ w2.cell? ⟨X, 1, none⟩ = some (.int .i64 d) ∧ w2.cell? ⟨X, 2, none⟩ = some (.int .i64 s) ∧ w2.cell? ⟨X, 3, none⟩ = some (.int .i64 o) ∧ w2.cell? ⟨X, 4, none⟩ = some (.int .i64 m) ∧ Below W.heap.size W w2) :=
  (h w1).mono fun _ _ ⟨e, hb⟩ => ⟨e, chS_up hX hS hb⟩
theorem hk (W : World) (X : Nat) (op d s o m : Int) (hX : X < W.heap.size) (h : ∀ w, Calls Try.prog 17 #[] w fun e w' => e = .returned (.bool true) ∧ Below w.heap.size w w') (w1 : World) (hS : (w1.cell? ⟨X, 0, none⟩ = some (.int .i64 op) ∧ w1.cell? ⟨X, 1, none⟩ = some (.int .i64 d) ∧ w1.cell? ⟨X, 2, none⟩ = some (.int .i64 s) ∧ w1.cell? ⟨X, 3, none⟩ = some (.int .i64 o) ∧ w1.cell? ⟨X, 4, none⟩ = some (.int .i64 m) ∧ Below W.heap.size W w1)) :
    Calls Try.prog 17 #[] w1 fun e w2 => e = .returned (.bool true) ∧ (w2.cell? ⟨X, 0, none⟩ = some (.int .i64 op) ∧ w2.cell? ⟨X, 1, none⟩ = some (.int .i64 d) ∧ w2.cell? ⟨X, 2, none⟩ = some (.int .i64 s) ∧ w2.cell? ⟨X, 3, none⟩ = some (.int .i64 o) ∧ w2.cell? ⟨X, 4, none⟩ = some (.int .i64 m) ∧ Below W.heap.size W w2) :=
  (h w1).mono fun _ _ ⟨e, hb⟩ => ⟨e, chS_up hX hS hb⟩
set_option maxHeartbeats 4000000 in
theorem insnChecks (op d s o m : Int) (w : World) (hx : InWf ⟨op, d, s, o, m⟩) :
    Calls Try.prog 3 #[insnV op d s o m] w fun e w' => e = .returned (.bool true) ∧ Below w.heap.size w w' := by
  have HD := hid (fun w => dcheck_any op d s o m w hx.op)
  rw [show chkD op d s o m = Insn.chk op d s o m from chk_eq _ _ _ _ _ (bounds_i64 hx.m)] at HD
  have HR := hid (fun w => check_any op d s o m w)
  have hob := bounds_i64 hx.op
  have HS := hid (fun w => size_any op w hob.1 hob.2)
  have HSD := hid (fun w => dsize_any op w)
  have HA := hid (fun w => datomic_any m w)
  have HAR := hid (fun w => atomic_any m w)
  generalize Insn.chk op d s o m = c at HD HR
  generalize sizeR op = z at HS HSD
  generalize atomIs m = b1 at HA HAR
  generalize atomF m = b2 at HA HAR
  unfold insnV at *
  clear hx
  go_enter Try.func3, Try.ntmps3
  have HB0 := hid (below_new w (.cells #[.int .i64 op, .int .i64 d, .int .i64 s, .int .i64 o, .int .i64 m] 23))
  have hX : w.heap.size < (w.alloc (.cells #[.int .i64 op, .int .i64 d, .int .i64 s, .int .i64 o, .int .i64 m] 23)).heap.size := by simp
  go_wp2_with fail
  refine (HA.out _).mono ?_
  rintro e w' ⟨rfl, rfl⟩
  go_wp2_with fail
  refine (HAR.out _).mono ?_
  rintro e w' ⟨rfl, rfl⟩
  go_wp2_with fail
  have hS0 : ((w.alloc (.cells #[.int .i64 op, .int .i64 d, .int .i64 s, .int .i64 o, .int .i64 m] 23)).cell? ⟨w.heap.size, 0, none⟩ = some (.int .i64 op) ∧ (w.alloc (.cells #[.int .i64 op, .int .i64 d, .int .i64 s, .int .i64 o, .int .i64 m] 23)).cell? ⟨w.heap.size, 1, none⟩ = some (.int .i64 d) ∧ (w.alloc (.cells #[.int .i64 op, .int .i64 d, .int .i64 s, .int .i64 o, .int .i64 m] 23)).cell? ⟨w.heap.size, 2, none⟩ = some (.int .i64 s) ∧ (w.alloc (.cells #[.int .i64 op, .int .i64 d, .int .i64 s, .int .i64 o, .int .i64 m] 23)).cell? ⟨w.heap.size, 3, none⟩ = some (.int .i64 o) ∧ (w.alloc (.cells #[.int .i64 op, .int .i64 d, .int .i64 s, .int .i64 o, .int .i64 m] 23)).cell? ⟨w.heap.size, 4, none⟩ = some (.int .i64 m) ∧ Below (w.alloc (.cells #[.int .i64 op, .int .i64 d, .int .i64 s, .int .i64 o, .int .i64 m] 23)).heap.size (w.alloc (.cells #[.int .i64 op, .int .i64 d, .int .i64 s, .int .i64 o, .int .i64 m] 23)) (w.alloc (.cells #[.int .i64 op, .int .i64 d, .int .i64 s, .int .i64 o, .int .i64 m] 23))) := ⟨by simp, by simp, by simp, by simp, by simp, Below.refl _ _⟩
  generalize w.alloc (.cells #[.int .i64 op, .int .i64 d, .int .i64 s, .int .i64 o, .int .i64 m] 23) = W at *
  obtain ⟨X, hXe⟩ : ∃ X, w.heap.size = X := ⟨_, rfl⟩
  rw [hXe] at hX hS0 HB0 ⊢
  have HXE := hid hXe
  clear hXe
  go_region_held3 (fun w' => w'.cell? ⟨X, 0, none⟩ = some (.int .i64 op) ∧ w'.cell? ⟨X, 1, none⟩ = some (.int .i64 d) ∧ w'.cell? ⟨X, 2, none⟩ = some (.int .i64 s) ∧ w'.cell? ⟨X, 3, none⟩ = some (.int .i64 o) ∧ w'.cell? ⟨X, 4, none⟩ = some (.int .i64 m) ∧ Below W.heap.size W w')
    (first | (with_reducible assumption) | (with_reducible exact chS_drew ‹_›))
    (first
      | (go_at_call 11; (with_reducible refine (hc_dev W X op d s o m c hX HD.out _ ‹_›).mono ?_); rintro e w2 ⟨rfl, hS2⟩)
      | (go_at_call 12; (with_reducible refine (hc_ref W X op d s o m c hX HR.out _ ‹_›).mono ?_); rintro e w3 ⟨rfl, hS3⟩)
      | (go_at_call 13; refine (dclass_any _ _).mono ?_; rintro e w' ⟨rfl, rfl⟩)
      | (go_at_call 14; refine (class_any _ _).mono ?_; rintro e w' ⟨rfl, rfl⟩)
      | (go_at_call 15; refine (HSD.out _).mono ?_; rintro e w' ⟨rfl, rfl⟩)
      | (go_at_call 16; (with_reducible refine (hs_ref W X op d s o m z hX HS.out _ ‹_›).mono ?_); rintro e w4 ⟨rfl, hS4⟩)
      | (go_at_call 17; (with_reducible refine (hk W X op d s o m hX known_any _ ‹_›).mono ?_); rintro e w5 ⟨rfl, hS5⟩))
  all_goals
    go_wp2_with fail
    go_ret
    exact ⟨rfl, by rw [HXE.out]; exact HB0.out.trans (hS5.2.2.2.2.2.mono (by omega))⟩
end Go.Proofs.Ytgjplefpkcdhhaa.Insn
