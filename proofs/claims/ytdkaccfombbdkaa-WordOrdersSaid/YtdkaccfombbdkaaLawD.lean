/-
  The walk of the law WordOrders: comparisons are orders.
-/
import Derived.Test.YtdkaccfombbdkaaLawA
import Derived.Deep.QuietTactic
import Derived.BigQuiet
namespace Go.Proofs.Ytdkaccfombbdkaa.Law
open Go.RowKit Go.Proofs.Ytdkaccfombbdkaa.Num
theorem inj64 (a b : Int) : b64 a = b64 b ↔ (b64 a).toNat = (b64 b).toNat := ⟨fun h => by rw [h], fun h => BitVec.eq_of_toNat_eq h⟩
theorem inj32 (a b : Int) : b32 a = b32 b ↔ (b32 a).toNat = (b32 b).toNat := ⟨fun h => by rw [h], fun h => BitVec.eq_of_toNat_eq h⟩
theorem injS {n : Nat} (x y : BitVec n) : x = y ↔ x.toInt = y.toInt := ⟨fun h => by rw [h], fun h => BitVec.eq_of_toInt_eq h⟩

theorem o_ne (wide : Bool) (a b : Int) : jmpA 80 wide a b = !jmpA 16 wide a b := by
  cases wide
  · simp only [jmpA, Bool.false_eq_true, if_false]
    show decide (b32 a ≠ b32 b) = !decide (b32 a = b32 b)
    simp
  · simp only [jmpA, if_true]
    show decide (b64 a ≠ b64 b) = !decide (b64 a = b64 b)
    simp
theorem o_sym (wide : Bool) (a b : Int) : jmpA 160 wide b a = jmpA 32 wide a b := by
  cases wide
  · simp only [jmpA, Bool.false_eq_true, if_false]
    show decide ((b32 b).toNat < (b32 a).toNat) = decide ((b32 b).toNat < (b32 a).toNat)
    rfl
  · simp only [jmpA, if_true]
    show decide ((b64 b).toNat < (b64 a).toNat) = decide ((b64 b).toNat < (b64 a).toNat)
    rfl
theorem o_le (wide : Bool) (a b : Int) : jmpA 176 wide a b = (jmpA 160 wide a b || jmpA 16 wide a b) := by
  cases wide
  · simp only [jmpA, Bool.false_eq_true, if_false]
    show decide ((b32 a).toNat ≤ (b32 b).toNat) = (decide ((b32 a).toNat < (b32 b).toNat) || decide (b32 a = b32 b))
    rw [Bool.eq_iff_iff]; simp [inj32 a b]; omega
  · simp only [jmpA, if_true]
    show decide ((b64 a).toNat ≤ (b64 b).toNat) = (decide ((b64 a).toNat < (b64 b).toNat) || decide (b64 a = b64 b))
    rw [Bool.eq_iff_iff]; simp [inj64 a b]; omega
theorem o_ge (wide : Bool) (a b : Int) : jmpA 48 wide a b = (jmpA 32 wide a b || jmpA 16 wide a b) := by
  cases wide
  · simp only [jmpA, Bool.false_eq_true, if_false]
    show decide ((b32 b).toNat ≤ (b32 a).toNat) = (decide ((b32 b).toNat < (b32 a).toNat) || decide (b32 a = b32 b))
    rw [Bool.eq_iff_iff]; simp [inj32 a b]; omega
  · simp only [jmpA, if_true]
    show decide ((b64 b).toNat ≤ (b64 a).toNat) = (decide ((b64 b).toNat < (b64 a).toNat) || decide (b64 a = b64 b))
    rw [Bool.eq_iff_iff]; simp [inj64 a b]; omega
theorem o_eq (wide : Bool) (a b : Int) : jmpA 16 wide a b = !(jmpA 160 wide a b || jmpA 32 wide a b) := by
  cases wide
  · simp only [jmpA, Bool.false_eq_true, if_false]
    show decide (b32 a = b32 b) = !(decide ((b32 a).toNat < (b32 b).toNat) || decide ((b32 b).toNat < (b32 a).toNat))
    rw [Bool.eq_iff_iff]; simp [inj32 a b]; omega
  · simp only [jmpA, if_true]
    show decide (b64 a = b64 b) = !(decide ((b64 a).toNat < (b64 b).toNat) || decide ((b64 b).toNat < (b64 a).toNat))
    rw [Bool.eq_iff_iff]; simp [inj64 a b]; omega
theorem o_no (wide : Bool) (a b : Int) : (jmpA 160 wide a b && jmpA 32 wide a b) = false := by
  cases wide
  · simp only [jmpA, Bool.false_eq_true, if_false]
    show (decide ((b32 a).toNat < (b32 b).toNat) && decide ((b32 b).toNat < (b32 a).toNat)) = false
    rw [Bool.eq_false_iff]; simp; omega
  · simp only [jmpA, if_true]
    show (decide ((b64 a).toNat < (b64 b).toNat) && decide ((b64 b).toNat < (b64 a).toNat)) = false
    rw [Bool.eq_false_iff]; simp; omega
theorem o_ssym (wide : Bool) (a b : Int) : jmpA 192 wide b a = jmpA 96 wide a b := by
  cases wide
  · simp only [jmpA, Bool.false_eq_true, if_false]
    show decide ((b32 b).toInt < (b32 a).toInt) = decide ((b32 b).toInt < (b32 a).toInt)
    rfl
  · simp only [jmpA, if_true]
    show decide ((b64 b).toInt < (b64 a).toInt) = decide ((b64 b).toInt < (b64 a).toInt)
    rfl
theorem o_sle (wide : Bool) (a b : Int) : jmpA 208 wide a b = (jmpA 192 wide a b || jmpA 16 wide a b) := by
  cases wide
  · simp only [jmpA, Bool.false_eq_true, if_false]
    show decide ((b32 a).toInt ≤ (b32 b).toInt) = (decide ((b32 a).toInt < (b32 b).toInt) || decide (b32 a = b32 b))
    rw [Bool.eq_iff_iff]; simp [injS (b32 a) (b32 b)]; omega
  · simp only [jmpA, if_true]
    show decide ((b64 a).toInt ≤ (b64 b).toInt) = (decide ((b64 a).toInt < (b64 b).toInt) || decide (b64 a = b64 b))
    rw [Bool.eq_iff_iff]; simp [injS (b64 a) (b64 b)]; omega
theorem o_sge (wide : Bool) (a b : Int) : jmpA 112 wide a b = (jmpA 96 wide a b || jmpA 16 wide a b) := by
  cases wide
  · simp only [jmpA, Bool.false_eq_true, if_false]
    show decide ((b32 b).toInt ≤ (b32 a).toInt) = (decide ((b32 b).toInt < (b32 a).toInt) || decide (b32 a = b32 b))
    rw [Bool.eq_iff_iff]; simp [injS (b32 a) (b32 b)]; omega
  · simp only [jmpA, if_true]
    show decide ((b64 b).toInt ≤ (b64 a).toInt) = (decide ((b64 b).toInt < (b64 a).toInt) || decide (b64 a = b64 b))
    rw [Bool.eq_iff_iff]; simp [injS (b64 a) (b64 b)]; omega
theorem o_seq (wide : Bool) (a b : Int) : jmpA 16 wide a b = !(jmpA 192 wide a b || jmpA 96 wide a b) := by
  cases wide
  · simp only [jmpA, Bool.false_eq_true, if_false]
    show decide (b32 a = b32 b) = !(decide ((b32 a).toInt < (b32 b).toInt) || decide ((b32 b).toInt < (b32 a).toInt))
    rw [Bool.eq_iff_iff]; simp [injS (b32 a) (b32 b)]; omega
  · simp only [jmpA, if_true]
    show decide (b64 a = b64 b) = !(decide ((b64 a).toInt < (b64 b).toInt) || decide ((b64 b).toInt < (b64 a).toInt))
    rw [Bool.eq_iff_iff]; simp [injS (b64 a) (b64 b)]; omega
theorem o_sno (wide : Bool) (a b : Int) : (jmpA 192 wide a b && jmpA 96 wide a b) = false := by
  cases wide
  · simp only [jmpA, Bool.false_eq_true, if_false]
    show (decide ((b32 a).toInt < (b32 b).toInt) && decide ((b32 b).toInt < (b32 a).toInt)) = false
    rw [Bool.eq_false_iff]; simp; omega
  · simp only [jmpA, if_true]
    show (decide ((b64 a).toInt < (b64 b).toInt) && decide ((b64 b).toInt < (b64 a).toInt)) = false
    rw [Bool.eq_false_iff]; simp; omega
theorem tn_ne {n : Nat} (x : BitVec n) : (tn x != 0) = decide (x ≠ 0) := by
  have e : (tn x = 0 ↔ x = 0) := ⟨fun h => by apply BitVec.eq_of_toNat_eq; unfold tn at h; simp; omega, fun h => by rw [h]; simp [tn]⟩
  rw [Bool.eq_iff_iff]; simp [e]
theorem o_set (wide : Bool) (a b : Int) : jmpA 64 wide a b = (aluA 80 wide a b != 0) := by
  cases wide
  · simp only [jmpA, aluA, Bool.false_eq_true, if_false]
    rw [tn_ne]; rfl
  · simp only [jmpA, aluA, if_true]
    rw [tn_ne]; rfl
theorem o_low (op a x b : Int) (h : x % 4294967296 = a % 4294967296) : jmpA op false x b = jmpA op false a b := by
  simp only [jmpA, Bool.false_eq_true, if_false]
  rw [← b32_mod x, h, b32_mod]
def signs : List Int := [160, 176, 32, 48, 192, 208, 96, 112]
theorem signs_is : ∀ k : Fin 8, jmpIs (signs.getD k.val 0) = true := by decide
theorem quiet_left {P : Program} {f : FuncId} {args : Array Value} {w : World} {n : Nat} {v : Value}
    (h : Calls P f args (w.drewN n) fun e w' => e = .returned v ∧ w.drewN n = w') : Calls P f args (w.drewN n) fun e w'' => e = .returned v ∧ ∃ m, w'' = w.drewN m :=
  h.mono fun _ _ ⟨he, hm⟩ => ⟨he, n, hm.symm⟩
theorem quiet_add_left {P : Program} {f : FuncId} {args : Array Value} {w : World} {a n : Nat} {v : Value}
    (h : Calls P f args (w.drewN (a + n)) fun e w' => e = .returned v ∧ w.drewN (a + n) = w') :
    Calls P f args (w.drewN (a + n)) fun e w'' => e = .returned v ∧ ∃ m, w'' = w.drewN (a + m) :=
  h.mono fun _ _ ⟨he, hm⟩ => ⟨he, n, hm.symm⟩
theorem below_drewN {B : Nat} {a w : World} (h : Below B a w) (n : Nat) : Below B a (w.drewN n) := ⟨h.os, h.tape, h.output, h.size, h.block⟩
theorem is_low (op a b x : Int) (w : World) (h : jmpIs op = true) (x0 : 0 ≤ x) (x1 : x ≤ 18446744073709551615) (hx : x % 4294967296 = a % 4294967296) (b0 : 0 ≤ b) (b1 : b ≤ 18446744073709551615) :
    Calls Try.prog 24 #[.int .i64 op, .bool false, .int .u64 x, .int .u64 b] w fun e w' => e = .returned (.bool (jmpA op false a b)) ∧ w = w' := by
  have H := is_yes op false x b w h x0 x1 b0 b1
  rw [o_low op a x b hx] at H
  exact H
set_option maxRecDepth 100000 in
set_option maxHeartbeats 4000000 in
theorem wordOrders (wide : Bool) (a b c : Int) (w : World) (a0 : 0 ≤ a) (a1 : a ≤ 18446744073709551615) (b0 : 0 ≤ b) (b1 : b ≤ 18446744073709551615) :
    Calls Try.prog 7 #[.bool wide, .int .u64 a, .int .u64 b, .int .u64 c] w fun e w' => e = .returned (.bool true) ∧ Below w.heap.size w w' := by
  have hne := o_ne wide a b
  have hle := o_le wide a b
  have hge := o_ge wide a b
  have heq := o_eq wide a b
  have hno := o_no wide a b
  have hsym := o_sym wide a b
  have sle := o_sle wide a b
  have sge := o_sge wide a b
  have seq := o_seq wide a b
  have sno := o_sno wide a b
  have ssym := o_ssym wide a b
  have hset := o_set wide a b
  cases h16 : jmpA 16 wide a b <;> cases h160 : jmpA 160 wide a b <;> cases h32 : jmpA 32 wide a b <;> cases h192 : jmpA 192 wide a b <;> cases h96 : jmpA 96 wide a b <;> rw [h16, h160, h32] at heq <;> rw [h160, h32] at hno <;> rw [h16, h192, h96] at seq <;> rw [h192, h96] at sno <;> first | (exact absurd heq (by decide)) | (exact absurd hno (by decide)) | (exact absurd seq (by decide)) | (exact absurd sno (by decide)) | skip
  all_goals
    rw [h16] at hne
    rw [h160, h16] at hle
    rw [h32, h16] at hge
    rw [h32] at hsym
    rw [h192, h16] at sle
    rw [h96, h16] at sge
    rw [h96] at ssym
    clear heq hno seq sno
    simp only [Bool.not_true, Bool.not_false, Bool.or_self, Bool.or_true, Bool.or_false] at hne hle hge sle sge
    have E16 := hid h16; have E160 := hid h160; have E32 := hid h32; have E192 := hid h192; have E96 := hid h96
    have E80 := hid hne; have E176 := hid hle; have E48 := hid hge; have E208 := hid sle; have E112 := hid sge; have Eb := hid hsym; have Es := hid ssym; have Eset := hid hset
    clear h16 h160 h32 h192 h96 hne hle hge sle sge hsym ssym hset
    go_enter Try.func7, Try.ntmps7
    go_wp2_with fail
    refine (is_yes _ _ _ _ _ rfl a0 a1 b0 b1).mono ?_
    rintro e w' ⟨rfl, rfl⟩
    rw [E16.out]
    go_wp2_with fail
    refine (is_yes _ _ _ _ _ rfl a0 a1 b0 b1).mono ?_
    rintro e w' ⟨rfl, rfl⟩
    rw [E80.out]
    go_wp2
    go_loop [11, 12, 13] (fun i _ _ => ∃ k : Nat, k ≤ 2 ∧ i = .int .i64 (4 * k : Nat)) (fun i _ _ => 8 - (intOf i).toNat)
    case atStart => exact ⟨0, Nat.zero_le _, rfl⟩
    case round =>
      obtain ⟨k, hk, rfl⟩ := hrel
      match k, hk with
      | 0, _ =>
        go_wp2_with fail
        refine (is_yes _ _ _ _ _ rfl a0 a1 b0 b1).mono ?_
        rintro e w' ⟨rfl, rfl⟩
        rw [E160.out]
        go_wp2_with fail
        refine (is_yes _ _ _ _ _ rfl a0 a1 b0 b1).mono ?_
        rintro e w' ⟨rfl, rfl⟩
        rw [E32.out]
        go_wp2_with fail
        refine (is_yes _ _ _ _ _ rfl a0 a1 b0 b1).mono ?_
        rintro e w' ⟨rfl, rfl⟩
        rw [E176.out]
        go_wp2_with fail
        refine (is_yes _ _ _ _ _ rfl a0 a1 b0 b1).mono ?_
        rintro e w' ⟨rfl, rfl⟩
        rw [E48.out]
        go_wp2_with fail
        refine (is_yes _ _ _ _ _ rfl b0 b1 a0 a1).mono ?_
        rintro e w' ⟨rfl, rfl⟩
        rw [Eb.out]
        go_wp2
        go_round
        case rel => exact ⟨1, by omega, rfl⟩
        case measure => simp [intOf]
      | 1, _ =>
        go_wp2_with fail
        refine (is_yes _ _ _ _ _ rfl a0 a1 b0 b1).mono ?_
        rintro e w' ⟨rfl, rfl⟩
        rw [E192.out]
        go_wp2_with fail
        refine (is_yes _ _ _ _ _ rfl a0 a1 b0 b1).mono ?_
        rintro e w' ⟨rfl, rfl⟩
        rw [E96.out]
        go_wp2_with fail
        refine (is_yes _ _ _ _ _ rfl a0 a1 b0 b1).mono ?_
        rintro e w' ⟨rfl, rfl⟩
        rw [E208.out]
        go_wp2_with fail
        refine (is_yes _ _ _ _ _ rfl a0 a1 b0 b1).mono ?_
        rintro e w' ⟨rfl, rfl⟩
        rw [E112.out]
        go_wp2_with fail
        refine (is_yes _ _ _ _ _ rfl b0 b1 a0 a1).mono ?_
        rintro e w' ⟨rfl, rfl⟩
        rw [Es.out]
        go_wp2
        go_round
        case rel => exact ⟨2, by omega, rfl⟩
        case measure => simp [intOf]
      | 2, _ =>
        go_wp2_with fail
        refine (is_yes _ _ _ _ _ rfl a0 a1 b0 b1).mono ?_
        rintro e w' ⟨rfl, rfl⟩
        rw [Eset.out]
        go_wp2_with fail
        refine (alu_yes _ _ _ _ _ rfl a0 a1 b0 b1).mono ?_
        rintro e w' ⟨rfl, rfl⟩
        go_wp2
        have hc2 : ∀ k, k < 8 → (w.alloc (Obj.cells #[Value.int IntKind.i64 160, Value.int IntKind.i64 176, Value.int IntKind.i64 32, Value.int IntKind.i64 48, Value.int IntKind.i64 192, Value.int IntKind.i64 208, Value.int IntKind.i64 96, Value.int IntKind.i64 112] 3)).cell? ⟨w.heap.size, k, none⟩ = some (.int .i64 (signs.getD k 0)) := fun k hk => by
          match k, hk with
          | 0, _ => simp [signs]
          | 1, _ => simp [signs]
          | 2, _ => simp [signs]
          | 3, _ => simp [signs]
          | 4, _ => simp [signs]
          | 5, _ => simp [signs]
          | 6, _ => simp [signs]
          | 7, _ => simp [signs]
        have hbel : Below w.heap.size w (w.alloc (Obj.cells #[Value.int IntKind.i64 160, Value.int IntKind.i64 176, Value.int IntKind.i64 32, Value.int IntKind.i64 48, Value.int IntKind.i64 192, Value.int IntKind.i64 208, Value.int IntKind.i64 96, Value.int IntKind.i64 112] 3)) := (Below.refl _ _).alloc (Nat.le_refl _) _
        have hsz : w.heap.size < (w.alloc (Obj.cells #[Value.int IntKind.i64 160, Value.int IntKind.i64 176, Value.int IntKind.i64 32, Value.int IntKind.i64 48, Value.int IntKind.i64 192, Value.int IntKind.i64 208, Value.int IntKind.i64 96, Value.int IntKind.i64 112] 3)).heap.size := by simp
        generalize w.alloc (Obj.cells #[Value.int IntKind.i64 160, Value.int IntKind.i64 176, Value.int IntKind.i64 32, Value.int IntKind.i64 48, Value.int IntKind.i64 192, Value.int IntKind.i64 208, Value.int IntKind.i64 96, Value.int IntKind.i64 112] 3) = W at hc2 hbel hsz ⊢
        have HC := hid hc2; clear hc2
        go_loopw [14] (fun i wr => ∃ k n : Nat, k ≤ 8 ∧ i = .int .i64 k ∧ wr = W.drewN n) (fun i _ => 8 - (intOf i).toNat)
        case atStart => exact ⟨0, 0, Nat.zero_le _, rfl, rfl⟩
        case round =>
          obtain ⟨k, n, hk, rfl, rfl⟩ := hrel
          by_cases hlt : k < 8
          · have hck := HC.out k hlt
            have hj := signs_is ⟨k, hlt⟩
            simp only at hj
            generalize signs.getD k 0 = op at hck hj
            have Hj := hid hj; clear hj
            go_wp2_with fail
            go_quiet ((go_at_call 24; (first | refine quiet_left (is_low op a b _ _ Hj.out ?_ ?_ ?_ b0 b1) | refine quiet_add_left (is_low op a b _ _ Hj.out ?_ ?_ ?_ b0 b1)) <;> (try simp only [IntKind.wrap_u64]) <;> omega))
            go_wp2
            go_roundw
            case rel => exact ⟨k + 1, _, by omega, by go_num, rfl⟩
            case measure => simp [intOf]; omega
          · have : k = 8 := by omega
            subst this
            go_wp2_with fail
            refine (works_any _).mono ?_
            rintro e w' ⟨rfl, hb⟩
            go_wp2
            go_ret
            exact ⟨rfl, (below_drewN hbel n).trans (hb.mono (by show w.heap.size ≤ W.heap.size; omega))⟩

end Go.Proofs.Ytdkaccfombbdkaa.Law
