/-
  The contracts of tnum's calls.
-/
import Derived.Test.YtpbhfpogbndljaaDoorTnA
import Derived.Test.YtpbhfpogbndljaaDoorUp
namespace Go.Proofs.YtpbhfpogbndljaaDoor.Tn
open Go.RowKit Go.Proofs.YtpbhfpogbndljaaDoor.Num Go.Proofs.YtpbhfpogbndljaaDoor.Up
def exceptR (v m : BitVec 64) : T := ⟨v &&& ~~~m, m⟩
def betweenR (l h : BitVec 64) : T := ⟨l, l ^^^ h⟩
def joinR (a b : T) : T := exceptR a.lo (a.m ||| b.m ||| (a.lo ^^^ b.lo))
def andR (a b : T) : T := betweenR (a.lo &&& b.lo) (a.hi &&& b.hi)
def orR (a b : T) : T := betweenR (a.lo ||| b.lo) (a.hi ||| b.hi)
def xorR (a b : T) : T := exceptR (a.lo ^^^ b.lo) (a.m ||| b.m)
def addR (a b : T) : T := exceptR (a.lo + b.lo) (a.m ||| b.m ||| ((a.lo + b.lo) ^^^ (a.hi + b.hi)))
def subR (a b : T) : T := exceptR (a.lo - b.hi) (a.m ||| b.m ||| ((a.lo - b.hi) ^^^ (a.hi - b.lo)))
def withinB (a b : T) : Bool := (a.m ||| (a.lo ^^^ b.lo)) &&& ~~~b.m == 0#64
def ofR (v : BitVec 64) : T := ⟨v, 0#64⟩
def inB (a : T) (v : BitVec 64) : Bool := withinB (ofR v) a
def noneB (a b : T) : Bool := (a.lo ||| b.lo) &&& ~~~(a.hi &&& b.hi) != 0#64
def meetR (a b : T) : T := if noneB a b then ⟨0#64, 0#64⟩ else betweenR (a.lo ||| b.lo) (a.hi &&& b.hi)
theorem addT (x y : BitVec 64) : IntKind.u64.wrap (tn x + tn y) = tn (x + y) := by rw [add64, b64_tn, b64_tn]
theorem subT (x y : BitVec 64) : IntKind.u64.wrap (tn x - tn y) = tn (x - y) := by rw [sub64, b64_tn, b64_tn]
theorem eq0T (x : BitVec 64) : (tn x == 0) = (x == 0#64) := by
  rw [Bool.eq_iff_iff]
  simp only [beq_iff_eq]
  exact ⟨fun h => tn_inj (h.trans rfl), fun h => by rw [h]; rfl⟩
theorem neq0T (x : BitVec 64) : (tn x != 0) = (x != 0#64) := by unfold bne; rw [eq0T]
/-- One tnum in a box of the call's own, behind all that was there. -/
def One (w : World) (a : T) (x : World) : Prop := Below w.heap.size w x ∧ B1 x w.heap.size a
theorem one_ups (w : World) (a : T) : Ups (One w a) := ups_and (ups_below (Nat.le_refl _)) (ups_block _ _)
theorem one_start (w : World) (a : T) : One w a (w.alloc (.cells #[.int .u64 (tn a.v), .int .u64 (tn a.m)] 24)) := ⟨(Below.refl _ _).alloc (Nat.le_refl _) _, heap_new _ _⟩
/-- Two tnums in boxes of the call's own, behind all that was there. -/
def Two (w : World) (a b : T) (x : World) : Prop := Below w.heap.size w x ∧ B1 x w.heap.size a ∧ B1 x (w.heap.size + 1) b
theorem two_ups (w : World) (a b : T) : Ups (Two w a b) := ups_and (ups_below (Nat.le_refl _)) (ups_and (ups_block _ _) (ups_block _ _))
theorem two_start (w : World) (a b : T) : Two w a b ((w.alloc (.cells #[.int .u64 (tn a.v), .int .u64 (tn a.m)] 24)).alloc (.cells #[.int .u64 (tn b.v), .int .u64 (tn b.m)] 24)) := by
  refine ⟨((Below.refl _ _).alloc (Nat.le_refl _) _).alloc (by simp) _, ?_, ?_⟩
  · exact heap_old (heap_new _ _) _
  · have h := heap_new (w.alloc (.cells #[.int .u64 (tn a.v), .int .u64 (tn a.m)] 24)) (.cells #[.int .u64 (tn b.v), .int .u64 (tn b.m)] 24)
    rw [show (w.alloc (.cells #[.int .u64 (tn a.v), .int .u64 (tn a.m)] 24)).heap.size = w.heap.size + 1 by simp] at h
    exact h
/-- A block of two cells that may be written. -/
def Room (k : Nat) (x : World) : Prop := ∃ p q, x.heap[k]? = some (.cells #[p, q] 24 (0, 0))
theorem room_ups (k : Nat) : Ups (Room k) := fun _ _ hw hb => by
  obtain ⟨p, q, h⟩ := hw
  exact ⟨p, q, ups_block k _ _ _ h hb⟩
theorem Room.facts {k : Nat} {x : World} (h : Room k x) : ∃ p q, x.cell? ⟨k, 0, none⟩ = some p ∧ x.cell? ⟨k, 1, none⟩ = some q ∧ x.frozen? ⟨k, 0, none⟩ = false ∧ x.frozen? ⟨k, 1, none⟩ = false := by
  obtain ⟨p, q, h⟩ := h
  exact ⟨p, q, cell_of_row x k 0 _ _ (0, 0) h, cell_of_row x k 1 _ _ (0, 0) h, by simp [World.frozen?, h], by simp [World.frozen?, h]⟩
abbrev Put2 (k : Nat) (v m : Value) (x : World) : World := (x.setCell ⟨k, 0, none⟩ v).setCell ⟨k, 1, none⟩ m
/-- Two tnums, and room for a third. -/
def Three (w : World) (a b : T) (x : World) : Prop := Two w a b x ∧ Room (w.heap.size + 2) x
theorem three_ups (w : World) (a b : T) : Ups (Three w a b) := ups_and (two_ups w a b) (room_ups _)
theorem three_start (w : World) (a b : T) (p q : Value) : Three w a b (((w.alloc (.cells #[.int .u64 (tn a.v), .int .u64 (tn a.m)] 24)).alloc (.cells #[.int .u64 (tn b.v), .int .u64 (tn b.m)] 24)).alloc (.cells #[p, q] 24)) := by
  refine ⟨two_ups w a b _ _ (two_start w a b) ((Below.refl _ _).alloc (Nat.le_refl _) _), p, q, ?_⟩
  have h := heap_new ((w.alloc (.cells #[.int .u64 (tn a.v), .int .u64 (tn a.m)] 24)).alloc (.cells #[.int .u64 (tn b.v), .int .u64 (tn b.m)] 24)) (.cells #[p, q] 24)
  rw [show ((w.alloc (.cells #[.int .u64 (tn a.v), .int .u64 (tn a.m)] 24)).alloc (.cells #[.int .u64 (tn b.v), .int .u64 (tn b.m)] 24)).heap.size = w.heap.size + 2 by simp] at h
  exact h
/-- The third one is r. -/
def Done (w : World) (a b r : T) (x : World) : Prop := Two w a b x ∧ B1 x (w.heap.size + 2) r
theorem done_ups (w : World) (a b r : T) : Ups (Done w a b r) := ups_and (two_ups w a b) (ups_block _ _)
theorem done_three (w : World) (a b r : T) (x : World) (h : Done w a b r x) : Three w a b x := ⟨h.1, _, _, h.2⟩
theorem three_put (w : World) (a b r : T) (x : World) (h : Three w a b x) : Done w a b r (Put2 (w.heap.size + 2) (.int .u64 (tn r.v)) (.int .u64 (tn r.m)) x) := by
  obtain ⟨⟨hb, h1, h2⟩, p, q, h3⟩ := h
  refine ⟨⟨(hb.setCell (p := ⟨w.heap.size + 2, 0, none⟩) (by simp) _).setCell (p := ⟨w.heap.size + 2, 1, none⟩) (by simp) _, ?_, ?_⟩, ?_⟩
  · unfold B1 Put2
    rw [Below.heap_setCell _ _ _ _ (by simp), Below.heap_setCell _ _ _ _ (by simp)]; exact h1
  · unfold B1 Put2
    rw [Below.heap_setCell _ _ _ _ (by simp), Below.heap_setCell _ _ _ _ (by simp)]; exact h2
  · exact heap_setCell_same _ _ 1 _ _ _ (heap_setCell_same _ _ 0 _ _ _ h3)
theorem three_lt {w : World} {a b : T} {x : World} (h : Three w a b x) {k : Nat} (hk : Hid (k = x.heap.size)) : Hid (w.heap.size + 2 < k) := by
  obtain ⟨_, p, q, h3⟩ := h
  have h4 := (Array.getElem?_eq_some_iff.1 h3).1
  have := hk.out
  exact hid (by omega)
theorem three_put1 {w : World} {a b : T} {x : World} (r : T) {k : Nat} {o : Obj} (h : New (Three w a b) k o x) (hk : Hid (w.heap.size + 2 < k)) : New (Done w a b r) k o (Put2 (w.heap.size + 2) (.int .u64 (tn r.v)) (.int .u64 (tn r.m)) x) := by
  refine ⟨three_put w a b r x h.1, ?_⟩
  have := hk.out
  unfold Put2
  rw [Below.heap_setCell _ _ _ _ (by simp; omega), Below.heap_setCell _ _ _ _ (by simp; omega)]; exact h.2
theorem B1.up {w x : World} {k : Nat} {a : T} (h : B1 w k a) (hb : Below w.heap.size w x) : B1 x k a := ups_block k _ w x h hb
/-- A block of two cells from B on that may be written; one that holds a tnum. -/
def RoomAt (B k : Nat) (x : World) : Prop := B ≤ k ∧ Room k x
def Has (B k : Nat) (a : T) (x : World) : Prop := B ≤ k ∧ B1 x k a
theorem roomAt_ups (B k : Nat) : Ups (RoomAt B k) := fun _ _ hw hb => ⟨hw.1, room_ups k _ _ hw.2 hb⟩
theorem has_ups (B k : Nat) (a : T) : Ups (Has B k a) := fun _ _ hw hb => ⟨hw.1, ups_block k _ _ _ hw.2 hb⟩
theorem roomAt_new {W x : World} (h : Below W.heap.size W x) (p q : Value) : RoomAt W.heap.size x.heap.size (x.alloc (.cells #[p, q] 24)) := ⟨h.size, p, q, heap_new _ _⟩
theorem has_room {W : World} {k : Nat} {a : T} (x : World) (h : Below W.heap.size W x ∧ Has W.heap.size k a x) : Below W.heap.size W x ∧ RoomAt W.heap.size k x := ⟨h.1, h.2.1, _, _, h.2.2⟩
theorem room_put {W : World} {k : Nat} (a : T) (x : World) (h : Below W.heap.size W x ∧ RoomAt W.heap.size k x) : Below W.heap.size W (Put2 k (.int .u64 (tn a.v)) (.int .u64 (tn a.m)) x) ∧ Has W.heap.size k a (Put2 k (.int .u64 (tn a.v)) (.int .u64 (tn a.m)) x) := by
  obtain ⟨hb, hk, p, q, h⟩ := h
  refine ⟨(hb.setCell (p := ⟨k, 0, none⟩) hk _).setCell (p := ⟨k, 1, none⟩) hk _, hk, ?_⟩
  exact heap_setCell_same _ _ 1 _ _ _ (heap_setCell_same _ _ 0 _ _ _ h)
set_option maxRecDepth 100000 in
set_option maxHeartbeats 1000000 in
theorem join_any (a b : T) (w : World) :
    Calls Tryd.prog 33 #[a.val, b.val] w fun e w' => e = .returned ((joinR a b).val) ∧ Below w.heap.size w w' := by
  have HS := hid (three_start w a b (.int .u64 0) (.int .u64 0))
  have HU := hid (three_ups w a b)
  unfold T.val
  go_enter Tryd.func33, Tryd.ntmps33
  go_wp2
  refine up_begin (Three w a b) 14 rfl (by kernel_rfl) (three_ups w a b _ _ HS.out (Below.refl _ _).drew) ?_
  refine take_val (i := 0) HU.out rfl rfl (by kernel_rfl) (fun _ _ _ h => h) (by rfl) (by intro x hx; obtain ⟨⟨hB, c, d⟩, z⟩ := hx; obtain ⟨c0, c1⟩ := c.cells; obtain ⟨d0, d1⟩ := d.cells; obtain ⟨z0, z1, z2, z3, z4, z5⟩ := z.facts; go_simp; (first | done | exact rfl)) ?_
  simp only [List.set_cons_succ, List.set_cons_zero]
  refine take_call (i := 1) (f := 37) (args := #[a.val]) HU.out rfl rfl (by kernel_rfl) (fun _ _ _ h => h) (by rfl) (fun x hx => by kernel_rfl) (by intro x hx; obtain ⟨⟨hB, c, d⟩, z⟩ := hx; obtain ⟨c0, c1⟩ := c.cells; obtain ⟨d0, d1⟩ := d.cells; obtain ⟨z0, z1, z2, z3, z4, z5⟩ := z.facts; exact least_any a _) ?_
  simp only [List.set_cons_succ, List.set_cons_zero]
  refine take_val (i := 2) HU.out rfl rfl (by kernel_rfl) (fun _ _ _ h => h) (by rfl) (by intro x hx; obtain ⟨⟨hB, c, d⟩, z⟩ := hx; obtain ⟨c0, c1⟩ := c.cells; obtain ⟨d0, d1⟩ := d.cells; obtain ⟨z0, z1, z2, z3, z4, z5⟩ := z.facts; go_simp; (first | done | exact rfl)) ?_
  simp only [List.set_cons_succ, List.set_cons_zero]
  refine take_val (i := 3) HU.out rfl rfl (by kernel_rfl) (fun _ _ _ h => h) (by rfl) (by intro x hx; obtain ⟨⟨hB, c, d⟩, z⟩ := hx; obtain ⟨c0, c1⟩ := c.cells; obtain ⟨d0, d1⟩ := d.cells; obtain ⟨z0, z1, z2, z3, z4, z5⟩ := z.facts; go_simp; (first | done | exact rfl)) ?_
  simp only [List.set_cons_succ, List.set_cons_zero]
  refine take_val (i := 6) HU.out rfl rfl (by kernel_rfl) (fun _ _ _ h => h) (by rfl) (by intro x hx; obtain ⟨⟨hB, c, d⟩, z⟩ := hx; obtain ⟨c0, c1⟩ := c.cells; obtain ⟨d0, d1⟩ := d.cells; obtain ⟨z0, z1, z2, z3, z4, z5⟩ := z.facts; go_simp; (first | done | exact rfl)) ?_
  simp only [List.set_cons_succ, List.set_cons_zero]
  refine take_val (i := 8) HU.out rfl rfl (by kernel_rfl) (fun _ _ _ h => h) (by rfl) (by intro x hx; obtain ⟨⟨hB, c, d⟩, z⟩ := hx; obtain ⟨c0, c1⟩ := c.cells; obtain ⟨d0, d1⟩ := d.cells; obtain ⟨z0, z1, z2, z3, z4, z5⟩ := z.facts; go_simp; (first | done | exact rfl)) ?_
  simp only [List.set_cons_succ, List.set_cons_zero]
  refine take_one (i := 4) (by kernel_rfl) (step_make HU.out rfl rfl (by rfl) (.cells #[.int .u64 (tn a.v), .int .u64 (tn a.m), .int .u64 (tn b.v), .int .u64 (tn b.m)] 24 (0, 0)) (fun k => .slice (some ⟨k, 0, none⟩) 2 2) (by intro x hx; obtain ⟨⟨hB, c, d⟩, z⟩ := hx; obtain ⟨c0, c1⟩ := c.cells; obtain ⟨d0, d1⟩ := d.cells; obtain ⟨z0, z1, z2, z3, z4, z5⟩ := z.facts; go_simp; (first | done | exact rfl)) (fun k0 w0 hw0 hk0 => ?_))
  simp only [List.set_cons_succ, List.set_cons_zero]
  have n0 := three_lt hw0 hk0
  clear hk0 hw0
  refine take_call (i := 5) (f := 35) (args := #[.slice (some ⟨k0, 0, none⟩) 2 2]) (New.ups HU.out _ _) rfl rfl (by kernel_rfl) (fun _ _ _ h => h) (by rfl) (fun x hx => by kernel_rfl) (by intro x hx; obtain ⟨hx, e⟩ := hx; obtain ⟨⟨hB, c, d⟩, z⟩ := hx; obtain ⟨c0, c1⟩ := c.cells; obtain ⟨d0, d1⟩ := d.cells; obtain ⟨z0, z1, z2, z3, z4, z5⟩ := z.facts; exact unk2_any _ a b _ e (Array.getElem?_eq_some_iff.1 e).1) ?_
  simp only [List.set_cons_succ, List.set_cons_zero]
  refine take_call (i := 7) (f := 37) (args := #[a.val]) (New.ups HU.out _ _) rfl rfl (by kernel_rfl) (fun _ _ _ h => h) (by rfl) (fun x hx => by kernel_rfl) (by intro x hx; obtain ⟨hx, e⟩ := hx; obtain ⟨⟨hB, c, d⟩, z⟩ := hx; obtain ⟨c0, c1⟩ := c.cells; obtain ⟨d0, d1⟩ := d.cells; obtain ⟨z0, z1, z2, z3, z4, z5⟩ := z.facts; exact least_any a _) ?_
  simp only [List.set_cons_succ, List.set_cons_zero]
  refine take_call (i := 9) (f := 37) (args := #[b.val]) (New.ups HU.out _ _) rfl rfl (by kernel_rfl) (fun _ _ _ h => h) (by rfl) (fun x hx => by kernel_rfl) (by intro x hx; obtain ⟨hx, e⟩ := hx; obtain ⟨⟨hB, c, d⟩, z⟩ := hx; obtain ⟨c0, c1⟩ := c.cells; obtain ⟨d0, d1⟩ := d.cells; obtain ⟨z0, z1, z2, z3, z4, z5⟩ := z.facts; exact least_any b _) ?_
  simp only [List.set_cons_succ, List.set_cons_zero]
  refine take_val (i := 10) (New.ups HU.out _ _) rfl rfl (by kernel_rfl) (fun _ _ _ h => h) (by rfl) (by intro x hx; go_simp; (first | rw [xorT] | rw [orT] | rw [andT] | rw [andNotT] | rw [addT] | rw [subT] | skip); (first | done | exact rfl)) ?_
  simp only [List.set_cons_succ, List.set_cons_zero]
  refine take_val (i := 11) (New.ups HU.out _ _) rfl rfl (by kernel_rfl) (fun _ _ _ h => h) (by rfl) (by intro x hx; go_simp; (first | rw [xorT] | rw [orT] | rw [andT] | rw [andNotT] | rw [addT] | rw [subT] | skip); (first | done | exact rfl)) ?_
  simp only [List.set_cons_succ, List.set_cons_zero]
  refine take_call (i := 12) (f := 41) (args := #[.int .u64 (tn a.lo), .int .u64 (tn (a.m ||| b.m ||| (a.lo ^^^ b.lo)))]) (New.ups HU.out _ _) rfl rfl (by kernel_rfl) (fun _ _ _ h => h) (by rfl) (fun x hx => by kernel_rfl) (by intro x hx; obtain ⟨hx, e⟩ := hx; obtain ⟨⟨hB, c, d⟩, z⟩ := hx; obtain ⟨c0, c1⟩ := c.cells; obtain ⟨d0, d1⟩ := d.cells; obtain ⟨z0, z1, z2, z3, z4, z5⟩ := z.facts; exact except_any _ _ _) ?_
  simp only [List.set_cons_succ, List.set_cons_zero]
  refine take_one (i := 13) (by kernel_rfl) (step_store (New (Done w a b (joinR a b)) _ _) (New.ups (done_ups _ _ _ _) _ _) (fun x hx => ⟨done_three _ _ _ _ _ hx.1, hx.2⟩) rfl rfl (by rfl) (Put2 (w.heap.size + 2) _ _) (by intro x hx; obtain ⟨hx, e⟩ := hx; obtain ⟨⟨hB, c, d⟩, z⟩ := hx; obtain ⟨c0, c1⟩ := c.cells; obtain ⟨d0, d1⟩ := d.cells; obtain ⟨z0, z1, z2, z3, z4, z5⟩ := z.facts; (try unfold T.val); go_simp; (first | done | rfl)) (by intro x hx; exact three_put1 (joinR a b) hx n0) ?_)
  refine take_done (by kernel_rfl) ?_ _
  intro x hx
  obtain ⟨⟨⟨hB, _, _⟩, hR⟩, _⟩ := hx; obtain ⟨r0, r1⟩ := hR.cells
  go_wp2
  exact bodyPost_ret (v := .agg #[.int .u64 _, .int .u64 _]) (by simp [results, Tryd.results33, go_sem, r0, r1]) rfl ⟨rfl, hB⟩
set_option maxRecDepth 100000 in
set_option maxHeartbeats 1000000 in
theorem and_any (a b : T) (w : World) :
    Calls Tryd.prog 15 #[a.val, b.val] w fun e w' => e = .returned ((andR a b).val) ∧ Below w.heap.size w w' := by
  have HS := hid (three_start w a b (.int .u64 0) (.int .u64 0))
  have HU := hid (three_ups w a b)
  unfold T.val
  go_enter Tryd.func15, Tryd.ntmps15
  go_wp2
  refine up_begin (Three w a b) 12 rfl (by kernel_rfl) (three_ups w a b _ _ HS.out (Below.refl _ _).drew) ?_
  refine take_val (i := 0) HU.out rfl rfl (by kernel_rfl) (fun _ _ _ h => h) (by rfl) (by intro x hx; obtain ⟨⟨hB, c, d⟩, z⟩ := hx; obtain ⟨c0, c1⟩ := c.cells; obtain ⟨d0, d1⟩ := d.cells; obtain ⟨z0, z1, z2, z3, z4, z5⟩ := z.facts; go_simp; (first | done | exact rfl)) ?_
  simp only [List.set_cons_succ, List.set_cons_zero]
  refine take_call (i := 1) (f := 37) (args := #[a.val]) HU.out rfl rfl (by kernel_rfl) (fun _ _ _ h => h) (by rfl) (fun x hx => by kernel_rfl) (by intro x hx; obtain ⟨⟨hB, c, d⟩, z⟩ := hx; obtain ⟨c0, c1⟩ := c.cells; obtain ⟨d0, d1⟩ := d.cells; obtain ⟨z0, z1, z2, z3, z4, z5⟩ := z.facts; exact least_any a _) ?_
  simp only [List.set_cons_succ, List.set_cons_zero]
  refine take_val (i := 2) HU.out rfl rfl (by kernel_rfl) (fun _ _ _ h => h) (by rfl) (by intro x hx; obtain ⟨⟨hB, c, d⟩, z⟩ := hx; obtain ⟨c0, c1⟩ := c.cells; obtain ⟨d0, d1⟩ := d.cells; obtain ⟨z0, z1, z2, z3, z4, z5⟩ := z.facts; go_simp; (first | done | exact rfl)) ?_
  simp only [List.set_cons_succ, List.set_cons_zero]
  refine take_call (i := 3) (f := 37) (args := #[b.val]) HU.out rfl rfl (by kernel_rfl) (fun _ _ _ h => h) (by rfl) (fun x hx => by kernel_rfl) (by intro x hx; obtain ⟨⟨hB, c, d⟩, z⟩ := hx; obtain ⟨c0, c1⟩ := c.cells; obtain ⟨d0, d1⟩ := d.cells; obtain ⟨z0, z1, z2, z3, z4, z5⟩ := z.facts; exact least_any b _) ?_
  simp only [List.set_cons_succ, List.set_cons_zero]
  refine take_val (i := 4) HU.out rfl rfl (by kernel_rfl) (fun _ _ _ h => h) (by rfl) (by intro x hx; go_simp; (first | rw [xorT] | rw [orT] | rw [andT] | rw [andNotT] | rw [addT] | rw [subT] | skip); (first | done | exact rfl)) ?_
  simp only [List.set_cons_succ, List.set_cons_zero]
  refine take_val (i := 5) HU.out rfl rfl (by kernel_rfl) (fun _ _ _ h => h) (by rfl) (by intro x hx; obtain ⟨⟨hB, c, d⟩, z⟩ := hx; obtain ⟨c0, c1⟩ := c.cells; obtain ⟨d0, d1⟩ := d.cells; obtain ⟨z0, z1, z2, z3, z4, z5⟩ := z.facts; go_simp; (first | done | exact rfl)) ?_
  simp only [List.set_cons_succ, List.set_cons_zero]
  refine take_call (i := 6) (f := 40) (args := #[a.val]) HU.out rfl rfl (by kernel_rfl) (fun _ _ _ h => h) (by rfl) (fun x hx => by kernel_rfl) (by intro x hx; obtain ⟨⟨hB, c, d⟩, z⟩ := hx; obtain ⟨c0, c1⟩ := c.cells; obtain ⟨d0, d1⟩ := d.cells; obtain ⟨z0, z1, z2, z3, z4, z5⟩ := z.facts; exact most_any a _) ?_
  simp only [List.set_cons_succ, List.set_cons_zero]
  refine take_val (i := 7) HU.out rfl rfl (by kernel_rfl) (fun _ _ _ h => h) (by rfl) (by intro x hx; obtain ⟨⟨hB, c, d⟩, z⟩ := hx; obtain ⟨c0, c1⟩ := c.cells; obtain ⟨d0, d1⟩ := d.cells; obtain ⟨z0, z1, z2, z3, z4, z5⟩ := z.facts; go_simp; (first | done | exact rfl)) ?_
  simp only [List.set_cons_succ, List.set_cons_zero]
  refine take_call (i := 8) (f := 40) (args := #[b.val]) HU.out rfl rfl (by kernel_rfl) (fun _ _ _ h => h) (by rfl) (fun x hx => by kernel_rfl) (by intro x hx; obtain ⟨⟨hB, c, d⟩, z⟩ := hx; obtain ⟨c0, c1⟩ := c.cells; obtain ⟨d0, d1⟩ := d.cells; obtain ⟨z0, z1, z2, z3, z4, z5⟩ := z.facts; exact most_any b _) ?_
  simp only [List.set_cons_succ, List.set_cons_zero]
  refine take_val (i := 9) HU.out rfl rfl (by kernel_rfl) (fun _ _ _ h => h) (by rfl) (by intro x hx; go_simp; (first | rw [xorT] | rw [orT] | rw [andT] | rw [andNotT] | rw [addT] | rw [subT] | skip); (first | done | exact rfl)) ?_
  simp only [List.set_cons_succ, List.set_cons_zero]
  refine take_call (i := 10) (f := 42) (args := #[.int .u64 (tn (a.lo &&& b.lo)), .int .u64 (tn (a.hi &&& b.hi))]) HU.out rfl rfl (by kernel_rfl) (fun _ _ _ h => h) (by rfl) (fun x hx => by kernel_rfl) (by intro x hx; obtain ⟨⟨hB, c, d⟩, z⟩ := hx; obtain ⟨c0, c1⟩ := c.cells; obtain ⟨d0, d1⟩ := d.cells; obtain ⟨z0, z1, z2, z3, z4, z5⟩ := z.facts; exact between_any _ _ _) ?_
  simp only [List.set_cons_succ, List.set_cons_zero]
  refine take_one (i := 11) (by kernel_rfl) (step_store (Done w a b (andR a b)) (done_ups _ _ _ _) (done_three _ _ _ _) rfl rfl (by rfl) (Put2 (w.heap.size + 2) _ _) (by intro x hx; obtain ⟨⟨hB, c, d⟩, z⟩ := hx; obtain ⟨c0, c1⟩ := c.cells; obtain ⟨d0, d1⟩ := d.cells; obtain ⟨z0, z1, z2, z3, z4, z5⟩ := z.facts; (try unfold T.val); go_simp; (first | done | rfl)) (by intro x hx; exact three_put _ _ _ (andR a b) _ hx) ?_)
  refine take_done (by kernel_rfl) ?_ _
  intro x hx
  obtain ⟨⟨hB, _, _⟩, hR⟩ := hx; obtain ⟨r0, r1⟩ := hR.cells
  go_wp2
  exact bodyPost_ret (v := .agg #[.int .u64 _, .int .u64 _]) (by simp [results, Tryd.results15, go_sem, r0, r1]) rfl ⟨rfl, hB⟩
set_option maxRecDepth 100000 in
set_option maxHeartbeats 1000000 in
theorem or_any (a b : T) (w : World) :
    Calls Tryd.prog 16 #[a.val, b.val] w fun e w' => e = .returned ((orR a b).val) ∧ Below w.heap.size w w' := by
  have HS := hid (three_start w a b (.int .u64 0) (.int .u64 0))
  have HU := hid (three_ups w a b)
  unfold T.val
  go_enter Tryd.func16, Tryd.ntmps16
  go_wp2
  refine up_begin (Three w a b) 12 rfl (by kernel_rfl) (three_ups w a b _ _ HS.out (Below.refl _ _).drew) ?_
  refine take_val (i := 0) HU.out rfl rfl (by kernel_rfl) (fun _ _ _ h => h) (by rfl) (by intro x hx; obtain ⟨⟨hB, c, d⟩, z⟩ := hx; obtain ⟨c0, c1⟩ := c.cells; obtain ⟨d0, d1⟩ := d.cells; obtain ⟨z0, z1, z2, z3, z4, z5⟩ := z.facts; go_simp; (first | done | exact rfl)) ?_
  simp only [List.set_cons_succ, List.set_cons_zero]
  refine take_call (i := 1) (f := 37) (args := #[a.val]) HU.out rfl rfl (by kernel_rfl) (fun _ _ _ h => h) (by rfl) (fun x hx => by kernel_rfl) (by intro x hx; obtain ⟨⟨hB, c, d⟩, z⟩ := hx; obtain ⟨c0, c1⟩ := c.cells; obtain ⟨d0, d1⟩ := d.cells; obtain ⟨z0, z1, z2, z3, z4, z5⟩ := z.facts; exact least_any a _) ?_
  simp only [List.set_cons_succ, List.set_cons_zero]
  refine take_val (i := 2) HU.out rfl rfl (by kernel_rfl) (fun _ _ _ h => h) (by rfl) (by intro x hx; obtain ⟨⟨hB, c, d⟩, z⟩ := hx; obtain ⟨c0, c1⟩ := c.cells; obtain ⟨d0, d1⟩ := d.cells; obtain ⟨z0, z1, z2, z3, z4, z5⟩ := z.facts; go_simp; (first | done | exact rfl)) ?_
  simp only [List.set_cons_succ, List.set_cons_zero]
  refine take_call (i := 3) (f := 37) (args := #[b.val]) HU.out rfl rfl (by kernel_rfl) (fun _ _ _ h => h) (by rfl) (fun x hx => by kernel_rfl) (by intro x hx; obtain ⟨⟨hB, c, d⟩, z⟩ := hx; obtain ⟨c0, c1⟩ := c.cells; obtain ⟨d0, d1⟩ := d.cells; obtain ⟨z0, z1, z2, z3, z4, z5⟩ := z.facts; exact least_any b _) ?_
  simp only [List.set_cons_succ, List.set_cons_zero]
  refine take_val (i := 4) HU.out rfl rfl (by kernel_rfl) (fun _ _ _ h => h) (by rfl) (by intro x hx; go_simp; (first | rw [xorT] | rw [orT] | rw [andT] | rw [andNotT] | rw [addT] | rw [subT] | skip); (first | done | exact rfl)) ?_
  simp only [List.set_cons_succ, List.set_cons_zero]
  refine take_val (i := 5) HU.out rfl rfl (by kernel_rfl) (fun _ _ _ h => h) (by rfl) (by intro x hx; obtain ⟨⟨hB, c, d⟩, z⟩ := hx; obtain ⟨c0, c1⟩ := c.cells; obtain ⟨d0, d1⟩ := d.cells; obtain ⟨z0, z1, z2, z3, z4, z5⟩ := z.facts; go_simp; (first | done | exact rfl)) ?_
  simp only [List.set_cons_succ, List.set_cons_zero]
  refine take_call (i := 6) (f := 40) (args := #[a.val]) HU.out rfl rfl (by kernel_rfl) (fun _ _ _ h => h) (by rfl) (fun x hx => by kernel_rfl) (by intro x hx; obtain ⟨⟨hB, c, d⟩, z⟩ := hx; obtain ⟨c0, c1⟩ := c.cells; obtain ⟨d0, d1⟩ := d.cells; obtain ⟨z0, z1, z2, z3, z4, z5⟩ := z.facts; exact most_any a _) ?_
  simp only [List.set_cons_succ, List.set_cons_zero]
  refine take_val (i := 7) HU.out rfl rfl (by kernel_rfl) (fun _ _ _ h => h) (by rfl) (by intro x hx; obtain ⟨⟨hB, c, d⟩, z⟩ := hx; obtain ⟨c0, c1⟩ := c.cells; obtain ⟨d0, d1⟩ := d.cells; obtain ⟨z0, z1, z2, z3, z4, z5⟩ := z.facts; go_simp; (first | done | exact rfl)) ?_
  simp only [List.set_cons_succ, List.set_cons_zero]
  refine take_call (i := 8) (f := 40) (args := #[b.val]) HU.out rfl rfl (by kernel_rfl) (fun _ _ _ h => h) (by rfl) (fun x hx => by kernel_rfl) (by intro x hx; obtain ⟨⟨hB, c, d⟩, z⟩ := hx; obtain ⟨c0, c1⟩ := c.cells; obtain ⟨d0, d1⟩ := d.cells; obtain ⟨z0, z1, z2, z3, z4, z5⟩ := z.facts; exact most_any b _) ?_
  simp only [List.set_cons_succ, List.set_cons_zero]
  refine take_val (i := 9) HU.out rfl rfl (by kernel_rfl) (fun _ _ _ h => h) (by rfl) (by intro x hx; go_simp; (first | rw [xorT] | rw [orT] | rw [andT] | rw [andNotT] | rw [addT] | rw [subT] | skip); (first | done | exact rfl)) ?_
  simp only [List.set_cons_succ, List.set_cons_zero]
  refine take_call (i := 10) (f := 42) (args := #[.int .u64 (tn (a.lo ||| b.lo)), .int .u64 (tn (a.hi ||| b.hi))]) HU.out rfl rfl (by kernel_rfl) (fun _ _ _ h => h) (by rfl) (fun x hx => by kernel_rfl) (by intro x hx; obtain ⟨⟨hB, c, d⟩, z⟩ := hx; obtain ⟨c0, c1⟩ := c.cells; obtain ⟨d0, d1⟩ := d.cells; obtain ⟨z0, z1, z2, z3, z4, z5⟩ := z.facts; exact between_any _ _ _) ?_
  simp only [List.set_cons_succ, List.set_cons_zero]
  refine take_one (i := 11) (by kernel_rfl) (step_store (Done w a b (orR a b)) (done_ups _ _ _ _) (done_three _ _ _ _) rfl rfl (by rfl) (Put2 (w.heap.size + 2) _ _) (by intro x hx; obtain ⟨⟨hB, c, d⟩, z⟩ := hx; obtain ⟨c0, c1⟩ := c.cells; obtain ⟨d0, d1⟩ := d.cells; obtain ⟨z0, z1, z2, z3, z4, z5⟩ := z.facts; (try unfold T.val); go_simp; (first | done | rfl)) (by intro x hx; exact three_put _ _ _ (orR a b) _ hx) ?_)
  refine take_done (by kernel_rfl) ?_ _
  intro x hx
  obtain ⟨⟨hB, _, _⟩, hR⟩ := hx; obtain ⟨r0, r1⟩ := hR.cells
  go_wp2
  exact bodyPost_ret (v := .agg #[.int .u64 _, .int .u64 _]) (by simp [results, Tryd.results16, go_sem, r0, r1]) rfl ⟨rfl, hB⟩
end Go.Proofs.YtpbhfpogbndljaaDoor.Tn
