/- ValueLogic: the law. -/
import Derived.Test.YtabojeleomfgnaaGreatDoorO2
import Derived.Test.YtabojeleomfgnaaGreatDoorR1
namespace Go.Proofs
open Go.RowKit
namespace YtabojeleomfgnaaGreatDoor
set_option maxRecDepth 100000
theorem third_cl (x : V3) : third (clT x) = third x := by unfold third; rw [clT_clT]
theorem eqT_equal (x y : V3) (b : Bool) : eqT (clT x) (clT y) b = if alikeB x y = true then boolT b else nullT := by
  unfold eqT alikeB
  have : ((clT x).1 == (clT y).1 && (clT x).1 != 0) = ((clT x).1 != 0 && (clT x).1 == (clT y).1) := Bool.and_comm _ _
  rw [this]
theorem lst2 {g : Nat} {x y : V3} {w : World} (hx : Sz x) (hy : Sz y) (h : w.heap[g]? = some (.cells #[.int .i64 x.1, .int .i64 x.2.1, .string x.2.2, .int .i64 y.1, .int .i64 y.2.1, .string y.2.2] 23 (0, 0))) : Lst w (some ⟨g, 0, none⟩) [x, y] := fun k hk => by
  have c := fun j => cell_of_row w g j _ _ _ h
  match k, hk with
  | 0, _ => exact ⟨g, 0, rfl, (c 0).trans rfl, (c 1).trans rfl, (c 2).trans rfl, hx⟩
  | 1, _ => exact ⟨g, 0, rfl, (c 3).trans rfl, (c 4).trans rfl, (c 5).trans rfl, hy⟩
theorem eq_self (r : V3) (w : World) : (binOp BinOp.eql 23 (toV r) (toV r)).run Tryz.prog w = .ok (.bool true) w := by rw [run_eq23]; simp
/-- a and b in their boxes, the list of both, the table of operations -/
def L2 (x y : V3) (w0 w : World) : Prop :=
  w.heap[w0.heap.size]? = some (.cells (cells x) 23 (0, 0)) ∧ w.heap[w0.heap.size + 1]? = some (.cells (cells y) 23 (0, 0)) ∧ Lst w (some ⟨w0.heap.size + 1 + 1, 0, none⟩) [x, y] ∧ Ops w ∧ Below w0.heap.size w0 w
theorem L2.below {x y : V3} {w0 w w' : World} (h : L2 x y w0 w) (hb : Below w.heap.size w w') : L2 x y w0 w' :=
  ⟨(hb.block _ (lt_of_block h.1)).trans h.1, (hb.block _ (lt_of_block h.2.1)).trans h.2.1, h.2.2.1.below hb, h.2.2.2.1.below hb, below_call h.2.2.2.2 hb⟩
set_option maxHeartbeats 4000000 in
theorem law_logic (x y : V3) (hsx : Sz x) (hsy : Sz y) (w : World) (ho : Ops w) :
    Calls Tryz.prog 7 #[toV x, toV y] w fun e w' => e = .returned (.bool true) ∧ Below w.heap.size w w' := by
  have HSX := Lib.hid hsx
  have HSY := Lib.hid hsy
  have HO := Lib.hid ho
  have C1 : Hid (∀ w, Calls Tryz.prog 36 #[toV x] w fun e w' => e = .returned (toV (thirdT (2 - third x))) ∧ Below w.heap.size w w') := Lib.hid (fun w => not_t x w)
  have D1 : Hid (∀ (c g : Nat) (w : World), 2 ≤ c → Lst w (some ⟨g, 0, none⟩) [x, y] → Calls Tryz.prog 37 #[.int .i64 1, .int .i64 0, .slice (some ⟨g, 0, none⟩) 2 c] w fun e w' => e = .returned (toV (thirdT (2 - third x))) ∧ Below w.heap.size w w') := Lib.hid (fun c g w hc hl => by have := oper_not 0 x y (some ⟨g, 0, none⟩) c w hc hl; rw [third_cl] at this; exact this)
  have C2 : Hid (∀ w, Calls Tryz.prog 38 #[toV x, toV y] w fun e w' => e = .returned (toV (thirdT (min (third x) (third y)))) ∧ Below w.heap.size w w') := Lib.hid (fun w => and_t x y w)
  have D2 : Hid (∀ (c g : Nat) (w : World), 2 ≤ c → Lst w (some ⟨g, 0, none⟩) [x, y] → Calls Tryz.prog 37 #[.int .i64 2, .int .i64 0, .slice (some ⟨g, 0, none⟩) 2 c] w fun e w' => e = .returned (toV (thirdT (min (third x) (third y)))) ∧ Below w.heap.size w w') := Lib.hid (fun c g w hc hl => by have := oper_and 0 x y (some ⟨g, 0, none⟩) c w hc hl; rw [third_cl, third_cl] at this; exact this)
  have C3 : Hid (∀ w, Calls Tryz.prog 39 #[toV x, toV y] w fun e w' => e = .returned (toV (thirdT (max (third x) (third y)))) ∧ Below w.heap.size w w') := Lib.hid (fun w => or_t x y w)
  have D3 : Hid (∀ (c g : Nat) (w : World), 2 ≤ c → Lst w (some ⟨g, 0, none⟩) [x, y] → Calls Tryz.prog 37 #[.int .i64 3, .int .i64 0, .slice (some ⟨g, 0, none⟩) 2 c] w fun e w' => e = .returned (toV (thirdT (max (third x) (third y)))) ∧ Below w.heap.size w w') := Lib.hid (fun c g w hc hl => by have := oper_or 0 x y (some ⟨g, 0, none⟩) c w hc hl; rw [third_cl, third_cl] at this; exact this)
  have C4 : Hid (∀ w, Calls Tryz.prog 40 #[toV x, toV y] w fun e w' => e = .returned (toV (equalT x y)) ∧ Below w.heap.size w w') := Lib.hid (fun w => equal_t x y HSX.out HSY.out w)
  have D4 : Hid (∀ (c g : Nat) (w : World), 2 ≤ c → Lst w (some ⟨g, 0, none⟩) [x, y] → Calls Tryz.prog 37 #[.int .i64 4, .int .i64 0, .slice (some ⟨g, 0, none⟩) 2 c] w fun e w' => e = .returned (toV (equalT x y)) ∧ Below w.heap.size w w') := Lib.hid (fun c g w hc hl => by have := oper_equal 0 x y (some ⟨g, 0, none⟩) c w hc hl; rw [eqT_equal, cmp3_clT] at this; exact this)
  have C6 : Hid (∀ w, Calls Tryz.prog 41 #[toV x, toV y] w fun e w' => e = .returned (toV (lessT x y)) ∧ Below w.heap.size w w') := Lib.hid (fun w => less_t x y HSX.out HSY.out w)
  have D6 : Hid (∀ (c g : Nat) (w : World), 2 ≤ c → Lst w (some ⟨g, 0, none⟩) [x, y] → Calls Tryz.prog 37 #[.int .i64 6, .int .i64 0, .slice (some ⟨g, 0, none⟩) 2 c] w fun e w' => e = .returned (toV (lessT x y)) ∧ Below w.heap.size w w') := Lib.hid (fun c g w hc hl => by have := oper_less 0 x y (some ⟨g, 0, none⟩) c w hc hl; rw [eqT_equal, cmp3_clT] at this; exact this)
  have C10 : Hid (∀ w, Calls Tryz.prog 42 #[toV x, toV y] w fun e w' => e = .returned (toV (boolT (cmp3 x y == 0))) ∧ Below w.heap.size w w') := Lib.hid (fun w => same_t x y HSX.out HSY.out w)
  have D10 : Hid (∀ (c g : Nat) (w : World), 2 ≤ c → Lst w (some ⟨g, 0, none⟩) [x, y] → Calls Tryz.prog 37 #[.int .i64 10, .int .i64 0, .slice (some ⟨g, 0, none⟩) 2 c] w fun e w' => e = .returned (toV (boolT (cmp3 x y == 0))) ∧ Below w.heap.size w w') := Lib.hid (fun c g w hc hl => by have := oper_same 0 x y (some ⟨g, 0, none⟩) c w hc hl; rw [cmp3_clT] at this; exact this)
  generalize thirdT (2 - third x) = r1 at C1 D1
  generalize thirdT (min (third x) (third y)) = r2 at C2 D2
  generalize thirdT (max (third x) (third y)) = r3 at C3 D3
  generalize equalT x y = r4 at C4 D4
  generalize lessT x y = r6 at C6 D6
  generalize boolT (cmp3 x y == 0) = r10 at C10 D10
  clear hsx hsy ho
  obtain ⟨ka, na, sa⟩ := x
  obtain ⟨kb, nb, sb⟩ := y
  change Calls Tryz.prog 7 #[val ka na sa, val kb nb sb] w _
  have B0 : Below w.heap.size w (((w.alloc (.cells #[.int .i64 ka, .int .i64 na, .string sa] 23)).alloc (.cells #[.int .i64 kb, .int .i64 nb, .string sb] 23)).alloc (.cells #[.int .i64 ka, .int .i64 na, .string sa, .int .i64 kb, .int .i64 nb, .string sb] 23)) := by go_grown
  have I0 : Hid (L2 (ka, na, sa) (kb, nb, sb) w (((w.alloc (.cells #[.int .i64 ka, .int .i64 na, .string sa] 23)).alloc (.cells #[.int .i64 kb, .int .i64 nb, .string sb] 23)).alloc (.cells #[.int .i64 ka, .int .i64 na, .string sa, .int .i64 kb, .int .i64 nb, .string sb] 23))) := Lib.hid ⟨(heap_alloc_old _ _ (by simp only [World.size_alloc]; omega)).trans ((heap_alloc_old _ _ (by simp)).trans (heap_alloc_new w _)), (heap_alloc_old _ _ (by simp)).trans (new_at _ _ _ (by simp)), lst2 HSX.out HSY.out (new_at _ _ _ (by simp)), HO.out.below B0, B0⟩
  clear B0
  go_enter Tryz.func7, Tryz.ntmps7
  go_wp2_with fail
  refine (values_true _ I0.out.2.2.2.1).mono ?_
  rintro e w1 ⟨rfl, hb1⟩
  have I1 := Lib.hid (I0.out.below hb1)
  clear hb1
  have a0 : w1.cell? ⟨w.heap.size, 0, none⟩ = some (.int .i64 ka) := (cell_of_row w1 _ 0 _ _ _ I1.out.1).trans rfl
  have a1 : w1.cell? ⟨w.heap.size, 1, none⟩ = some (.int .i64 na) := (cell_of_row w1 _ 1 _ _ _ I1.out.1).trans rfl
  have a2 : w1.cell? ⟨w.heap.size, 2, none⟩ = some (.string sa) := (cell_of_row w1 _ 2 _ _ _ I1.out.1).trans rfl
  have d0 : w1.cell? ⟨w.heap.size + 1, 0, none⟩ = some (.int .i64 kb) := (cell_of_row w1 _ 0 _ _ _ I1.out.2.1).trans rfl
  have d1 : w1.cell? ⟨w.heap.size + 1, 1, none⟩ = some (.int .i64 nb) := (cell_of_row w1 _ 1 _ _ _ I1.out.2.1).trans rfl
  have d2 : w1.cell? ⟨w.heap.size + 1, 2, none⟩ = some (.string sb) := (cell_of_row w1 _ 2 _ _ _ I1.out.2.1).trans rfl
  have E1 := eq_self r1
  have G1 := run_guard23 r1 r1
  go_wp2_with fail
  refine (C1.out _).mono ?_
  rintro e w2 ⟨rfl, hb2⟩
  have I2 := Lib.hid (I1.out.below hb2)
  clear hb2
  clear a0 a1 a2 d0 d1 d2
  have a0 : w2.cell? ⟨w.heap.size, 0, none⟩ = some (.int .i64 ka) := (cell_of_row w2 _ 0 _ _ _ I2.out.1).trans rfl
  have a1 : w2.cell? ⟨w.heap.size, 1, none⟩ = some (.int .i64 na) := (cell_of_row w2 _ 1 _ _ _ I2.out.1).trans rfl
  have a2 : w2.cell? ⟨w.heap.size, 2, none⟩ = some (.string sa) := (cell_of_row w2 _ 2 _ _ _ I2.out.1).trans rfl
  have d0 : w2.cell? ⟨w.heap.size + 1, 0, none⟩ = some (.int .i64 kb) := (cell_of_row w2 _ 0 _ _ _ I2.out.2.1).trans rfl
  have d1 : w2.cell? ⟨w.heap.size + 1, 1, none⟩ = some (.int .i64 nb) := (cell_of_row w2 _ 1 _ _ _ I2.out.2.1).trans rfl
  have d2 : w2.cell? ⟨w.heap.size + 1, 2, none⟩ = some (.string sb) := (cell_of_row w2 _ 2 _ _ _ I2.out.2.1).trans rfl
  go_wp2_with fail
  refine (D1.out 2 (w.heap.size + 1 + 1) _ (Nat.le_refl _) I2.out.2.2.1).mono ?_
  rintro e w3 ⟨rfl, hb3⟩
  have I3 := Lib.hid (I2.out.below hb3)
  clear hb3
  clear a0 a1 a2 d0 d1 d2
  have a0 : w3.cell? ⟨w.heap.size, 0, none⟩ = some (.int .i64 ka) := (cell_of_row w3 _ 0 _ _ _ I3.out.1).trans rfl
  have a1 : w3.cell? ⟨w.heap.size, 1, none⟩ = some (.int .i64 na) := (cell_of_row w3 _ 1 _ _ _ I3.out.1).trans rfl
  have a2 : w3.cell? ⟨w.heap.size, 2, none⟩ = some (.string sa) := (cell_of_row w3 _ 2 _ _ _ I3.out.1).trans rfl
  have d0 : w3.cell? ⟨w.heap.size + 1, 0, none⟩ = some (.int .i64 kb) := (cell_of_row w3 _ 0 _ _ _ I3.out.2.1).trans rfl
  have d1 : w3.cell? ⟨w.heap.size + 1, 1, none⟩ = some (.int .i64 nb) := (cell_of_row w3 _ 1 _ _ _ I3.out.2.1).trans rfl
  have d2 : w3.cell? ⟨w.heap.size + 1, 2, none⟩ = some (.string sb) := (cell_of_row w3 _ 2 _ _ _ I3.out.2.1).trans rfl
  have E2 := eq_self r2
  have G2 := run_guard23 r2 r2
  go_wp2_with fail
  refine (C2.out _).mono ?_
  rintro e w4 ⟨rfl, hb4⟩
  have I4 := Lib.hid (I3.out.below hb4)
  clear hb4
  clear a0 a1 a2 d0 d1 d2
  have a0 : w4.cell? ⟨w.heap.size, 0, none⟩ = some (.int .i64 ka) := (cell_of_row w4 _ 0 _ _ _ I4.out.1).trans rfl
  have a1 : w4.cell? ⟨w.heap.size, 1, none⟩ = some (.int .i64 na) := (cell_of_row w4 _ 1 _ _ _ I4.out.1).trans rfl
  have a2 : w4.cell? ⟨w.heap.size, 2, none⟩ = some (.string sa) := (cell_of_row w4 _ 2 _ _ _ I4.out.1).trans rfl
  have d0 : w4.cell? ⟨w.heap.size + 1, 0, none⟩ = some (.int .i64 kb) := (cell_of_row w4 _ 0 _ _ _ I4.out.2.1).trans rfl
  have d1 : w4.cell? ⟨w.heap.size + 1, 1, none⟩ = some (.int .i64 nb) := (cell_of_row w4 _ 1 _ _ _ I4.out.2.1).trans rfl
  have d2 : w4.cell? ⟨w.heap.size + 1, 2, none⟩ = some (.string sb) := (cell_of_row w4 _ 2 _ _ _ I4.out.2.1).trans rfl
  go_wp2_with fail
  refine (D2.out 2 (w.heap.size + 1 + 1) _ (Nat.le_refl _) I4.out.2.2.1).mono ?_
  rintro e w5 ⟨rfl, hb5⟩
  have I5 := Lib.hid (I4.out.below hb5)
  clear hb5
  clear a0 a1 a2 d0 d1 d2
  have a0 : w5.cell? ⟨w.heap.size, 0, none⟩ = some (.int .i64 ka) := (cell_of_row w5 _ 0 _ _ _ I5.out.1).trans rfl
  have a1 : w5.cell? ⟨w.heap.size, 1, none⟩ = some (.int .i64 na) := (cell_of_row w5 _ 1 _ _ _ I5.out.1).trans rfl
  have a2 : w5.cell? ⟨w.heap.size, 2, none⟩ = some (.string sa) := (cell_of_row w5 _ 2 _ _ _ I5.out.1).trans rfl
  have d0 : w5.cell? ⟨w.heap.size + 1, 0, none⟩ = some (.int .i64 kb) := (cell_of_row w5 _ 0 _ _ _ I5.out.2.1).trans rfl
  have d1 : w5.cell? ⟨w.heap.size + 1, 1, none⟩ = some (.int .i64 nb) := (cell_of_row w5 _ 1 _ _ _ I5.out.2.1).trans rfl
  have d2 : w5.cell? ⟨w.heap.size + 1, 2, none⟩ = some (.string sb) := (cell_of_row w5 _ 2 _ _ _ I5.out.2.1).trans rfl
  have E3 := eq_self r3
  have G3 := run_guard23 r3 r3
  go_wp2_with fail
  refine (C3.out _).mono ?_
  rintro e w6 ⟨rfl, hb6⟩
  have I6 := Lib.hid (I5.out.below hb6)
  clear hb6
  clear a0 a1 a2 d0 d1 d2
  have a0 : w6.cell? ⟨w.heap.size, 0, none⟩ = some (.int .i64 ka) := (cell_of_row w6 _ 0 _ _ _ I6.out.1).trans rfl
  have a1 : w6.cell? ⟨w.heap.size, 1, none⟩ = some (.int .i64 na) := (cell_of_row w6 _ 1 _ _ _ I6.out.1).trans rfl
  have a2 : w6.cell? ⟨w.heap.size, 2, none⟩ = some (.string sa) := (cell_of_row w6 _ 2 _ _ _ I6.out.1).trans rfl
  have d0 : w6.cell? ⟨w.heap.size + 1, 0, none⟩ = some (.int .i64 kb) := (cell_of_row w6 _ 0 _ _ _ I6.out.2.1).trans rfl
  have d1 : w6.cell? ⟨w.heap.size + 1, 1, none⟩ = some (.int .i64 nb) := (cell_of_row w6 _ 1 _ _ _ I6.out.2.1).trans rfl
  have d2 : w6.cell? ⟨w.heap.size + 1, 2, none⟩ = some (.string sb) := (cell_of_row w6 _ 2 _ _ _ I6.out.2.1).trans rfl
  go_wp2_with fail
  refine (D3.out 2 (w.heap.size + 1 + 1) _ (Nat.le_refl _) I6.out.2.2.1).mono ?_
  rintro e w7 ⟨rfl, hb7⟩
  have I7 := Lib.hid (I6.out.below hb7)
  clear hb7
  clear a0 a1 a2 d0 d1 d2
  have a0 : w7.cell? ⟨w.heap.size, 0, none⟩ = some (.int .i64 ka) := (cell_of_row w7 _ 0 _ _ _ I7.out.1).trans rfl
  have a1 : w7.cell? ⟨w.heap.size, 1, none⟩ = some (.int .i64 na) := (cell_of_row w7 _ 1 _ _ _ I7.out.1).trans rfl
  have a2 : w7.cell? ⟨w.heap.size, 2, none⟩ = some (.string sa) := (cell_of_row w7 _ 2 _ _ _ I7.out.1).trans rfl
  have d0 : w7.cell? ⟨w.heap.size + 1, 0, none⟩ = some (.int .i64 kb) := (cell_of_row w7 _ 0 _ _ _ I7.out.2.1).trans rfl
  have d1 : w7.cell? ⟨w.heap.size + 1, 1, none⟩ = some (.int .i64 nb) := (cell_of_row w7 _ 1 _ _ _ I7.out.2.1).trans rfl
  have d2 : w7.cell? ⟨w.heap.size + 1, 2, none⟩ = some (.string sb) := (cell_of_row w7 _ 2 _ _ _ I7.out.2.1).trans rfl
  have E4 := eq_self r4
  have G4 := run_guard23 r4 r4
  go_wp2_with fail
  refine (C4.out _).mono ?_
  rintro e w8 ⟨rfl, hb8⟩
  have I8 := Lib.hid (I7.out.below hb8)
  clear hb8
  clear a0 a1 a2 d0 d1 d2
  have a0 : w8.cell? ⟨w.heap.size, 0, none⟩ = some (.int .i64 ka) := (cell_of_row w8 _ 0 _ _ _ I8.out.1).trans rfl
  have a1 : w8.cell? ⟨w.heap.size, 1, none⟩ = some (.int .i64 na) := (cell_of_row w8 _ 1 _ _ _ I8.out.1).trans rfl
  have a2 : w8.cell? ⟨w.heap.size, 2, none⟩ = some (.string sa) := (cell_of_row w8 _ 2 _ _ _ I8.out.1).trans rfl
  have d0 : w8.cell? ⟨w.heap.size + 1, 0, none⟩ = some (.int .i64 kb) := (cell_of_row w8 _ 0 _ _ _ I8.out.2.1).trans rfl
  have d1 : w8.cell? ⟨w.heap.size + 1, 1, none⟩ = some (.int .i64 nb) := (cell_of_row w8 _ 1 _ _ _ I8.out.2.1).trans rfl
  have d2 : w8.cell? ⟨w.heap.size + 1, 2, none⟩ = some (.string sb) := (cell_of_row w8 _ 2 _ _ _ I8.out.2.1).trans rfl
  go_wp2_with fail
  refine (D4.out 2 (w.heap.size + 1 + 1) _ (Nat.le_refl _) I8.out.2.2.1).mono ?_
  rintro e w9 ⟨rfl, hb9⟩
  have I9 := Lib.hid (I8.out.below hb9)
  clear hb9
  clear a0 a1 a2 d0 d1 d2
  have a0 : w9.cell? ⟨w.heap.size, 0, none⟩ = some (.int .i64 ka) := (cell_of_row w9 _ 0 _ _ _ I9.out.1).trans rfl
  have a1 : w9.cell? ⟨w.heap.size, 1, none⟩ = some (.int .i64 na) := (cell_of_row w9 _ 1 _ _ _ I9.out.1).trans rfl
  have a2 : w9.cell? ⟨w.heap.size, 2, none⟩ = some (.string sa) := (cell_of_row w9 _ 2 _ _ _ I9.out.1).trans rfl
  have d0 : w9.cell? ⟨w.heap.size + 1, 0, none⟩ = some (.int .i64 kb) := (cell_of_row w9 _ 0 _ _ _ I9.out.2.1).trans rfl
  have d1 : w9.cell? ⟨w.heap.size + 1, 1, none⟩ = some (.int .i64 nb) := (cell_of_row w9 _ 1 _ _ _ I9.out.2.1).trans rfl
  have d2 : w9.cell? ⟨w.heap.size + 1, 2, none⟩ = some (.string sb) := (cell_of_row w9 _ 2 _ _ _ I9.out.2.1).trans rfl
  have E6 := eq_self r6
  have G6 := run_guard23 r6 r6
  go_wp2_with fail
  refine (C6.out _).mono ?_
  rintro e w10 ⟨rfl, hb10⟩
  have I10 := Lib.hid (I9.out.below hb10)
  clear hb10
  clear a0 a1 a2 d0 d1 d2
  have a0 : w10.cell? ⟨w.heap.size, 0, none⟩ = some (.int .i64 ka) := (cell_of_row w10 _ 0 _ _ _ I10.out.1).trans rfl
  have a1 : w10.cell? ⟨w.heap.size, 1, none⟩ = some (.int .i64 na) := (cell_of_row w10 _ 1 _ _ _ I10.out.1).trans rfl
  have a2 : w10.cell? ⟨w.heap.size, 2, none⟩ = some (.string sa) := (cell_of_row w10 _ 2 _ _ _ I10.out.1).trans rfl
  have d0 : w10.cell? ⟨w.heap.size + 1, 0, none⟩ = some (.int .i64 kb) := (cell_of_row w10 _ 0 _ _ _ I10.out.2.1).trans rfl
  have d1 : w10.cell? ⟨w.heap.size + 1, 1, none⟩ = some (.int .i64 nb) := (cell_of_row w10 _ 1 _ _ _ I10.out.2.1).trans rfl
  have d2 : w10.cell? ⟨w.heap.size + 1, 2, none⟩ = some (.string sb) := (cell_of_row w10 _ 2 _ _ _ I10.out.2.1).trans rfl
  go_wp2_with fail
  refine (D6.out 2 (w.heap.size + 1 + 1) _ (Nat.le_refl _) I10.out.2.2.1).mono ?_
  rintro e w11 ⟨rfl, hb11⟩
  have I11 := Lib.hid (I10.out.below hb11)
  clear hb11
  clear a0 a1 a2 d0 d1 d2
  have a0 : w11.cell? ⟨w.heap.size, 0, none⟩ = some (.int .i64 ka) := (cell_of_row w11 _ 0 _ _ _ I11.out.1).trans rfl
  have a1 : w11.cell? ⟨w.heap.size, 1, none⟩ = some (.int .i64 na) := (cell_of_row w11 _ 1 _ _ _ I11.out.1).trans rfl
  have a2 : w11.cell? ⟨w.heap.size, 2, none⟩ = some (.string sa) := (cell_of_row w11 _ 2 _ _ _ I11.out.1).trans rfl
  have d0 : w11.cell? ⟨w.heap.size + 1, 0, none⟩ = some (.int .i64 kb) := (cell_of_row w11 _ 0 _ _ _ I11.out.2.1).trans rfl
  have d1 : w11.cell? ⟨w.heap.size + 1, 1, none⟩ = some (.int .i64 nb) := (cell_of_row w11 _ 1 _ _ _ I11.out.2.1).trans rfl
  have d2 : w11.cell? ⟨w.heap.size + 1, 2, none⟩ = some (.string sb) := (cell_of_row w11 _ 2 _ _ _ I11.out.2.1).trans rfl
  have E10 := eq_self r10
  have G10 := run_guard23 r10 r10
  go_wp2_with fail
  refine (C10.out _).mono ?_
  rintro e w12 ⟨rfl, hb12⟩
  have I12 := Lib.hid (I11.out.below hb12)
  clear hb12
  clear a0 a1 a2 d0 d1 d2
  have a0 : w12.cell? ⟨w.heap.size, 0, none⟩ = some (.int .i64 ka) := (cell_of_row w12 _ 0 _ _ _ I12.out.1).trans rfl
  have a1 : w12.cell? ⟨w.heap.size, 1, none⟩ = some (.int .i64 na) := (cell_of_row w12 _ 1 _ _ _ I12.out.1).trans rfl
  have a2 : w12.cell? ⟨w.heap.size, 2, none⟩ = some (.string sa) := (cell_of_row w12 _ 2 _ _ _ I12.out.1).trans rfl
  have d0 : w12.cell? ⟨w.heap.size + 1, 0, none⟩ = some (.int .i64 kb) := (cell_of_row w12 _ 0 _ _ _ I12.out.2.1).trans rfl
  have d1 : w12.cell? ⟨w.heap.size + 1, 1, none⟩ = some (.int .i64 nb) := (cell_of_row w12 _ 1 _ _ _ I12.out.2.1).trans rfl
  have d2 : w12.cell? ⟨w.heap.size + 1, 2, none⟩ = some (.string sb) := (cell_of_row w12 _ 2 _ _ _ I12.out.2.1).trans rfl
  go_wp2_with fail
  refine (D10.out 2 (w.heap.size + 1 + 1) _ (Nat.le_refl _) I12.out.2.2.1).mono ?_
  rintro e w13 ⟨rfl, hb13⟩
  have I13 := Lib.hid (I12.out.below hb13)
  clear hb13
  clear a0 a1 a2 d0 d1 d2
  have a0 : w13.cell? ⟨w.heap.size, 0, none⟩ = some (.int .i64 ka) := (cell_of_row w13 _ 0 _ _ _ I13.out.1).trans rfl
  have a1 : w13.cell? ⟨w.heap.size, 1, none⟩ = some (.int .i64 na) := (cell_of_row w13 _ 1 _ _ _ I13.out.1).trans rfl
  have a2 : w13.cell? ⟨w.heap.size, 2, none⟩ = some (.string sa) := (cell_of_row w13 _ 2 _ _ _ I13.out.1).trans rfl
  have d0 : w13.cell? ⟨w.heap.size + 1, 0, none⟩ = some (.int .i64 kb) := (cell_of_row w13 _ 0 _ _ _ I13.out.2.1).trans rfl
  have d1 : w13.cell? ⟨w.heap.size + 1, 1, none⟩ = some (.int .i64 nb) := (cell_of_row w13 _ 1 _ _ _ I13.out.2.1).trans rfl
  have d2 : w13.cell? ⟨w.heap.size + 1, 2, none⟩ = some (.string sb) := (cell_of_row w13 _ 2 _ _ _ I13.out.2.1).trans rfl
  go_wp2
  go_ret
  exact ⟨rfl, I13.out.2.2.2.2⟩
end YtabojeleomfgnaaGreatDoor
end Go.Proofs
