/- ValueNumbers: the law. -/
import Derived.Test.YtabojeleomfgnaaGreatDoorO3
import Derived.Test.YtabojeleomfgnaaGreatDoorS7
namespace Go.Proofs
open Go.RowKit
namespace YtabojeleomfgnaaGreatDoor
set_option maxRecDepth 100000
set_option maxHeartbeats 4000000 in
theorem law_numbers (x y : V3) (hsx : Sz x) (hsy : Sz y) (w : World) (ho : Ops w) :
    Calls Tryz.prog 8 #[toV x, toV y] w fun e w' => e = .returned (.bool true) ∧ Below w.heap.size w w' := by
  have HSX := Lib.hid hsx
  have HSY := Lib.hid hsy
  have HO := Lib.hid ho
  have C12 : Hid (∀ w, Calls Tryz.prog 43 #[toV x, toV y] w fun e w' => e = .returned (toV (addT (clT x) (clT y))) ∧ Below w.heap.size w w') := Lib.hid (fun w => add_t x y hsx hsy w)
  have D12 : Hid (∀ (c g : Nat) (w : World), 2 ≤ c → Lst w (some ⟨g, 0, none⟩) [x, y] → Calls Tryz.prog 37 #[.int .i64 12, .int .i64 0, .slice (some ⟨g, 0, none⟩) 2 c] w fun e w' => e = .returned (toV (addT (clT x) (clT y))) ∧ Below w.heap.size w w') := Lib.hid (fun c g w hc hl => by have := oper_add 0 x y (some ⟨g, 0, none⟩) c w hc hl; exact this)
  have C13 : Hid (∀ w, Calls Tryz.prog 44 #[toV x, toV y] w fun e w' => e = .returned (toV (subT (clT x) (clT y))) ∧ Below w.heap.size w w') := Lib.hid (fun w => sub_t x y hsx hsy w)
  have D13 : Hid (∀ (c g : Nat) (w : World), 2 ≤ c → Lst w (some ⟨g, 0, none⟩) [x, y] → Calls Tryz.prog 37 #[.int .i64 13, .int .i64 0, .slice (some ⟨g, 0, none⟩) 2 c] w fun e w' => e = .returned (toV (subT (clT x) (clT y))) ∧ Below w.heap.size w w') := Lib.hid (fun c g w hc hl => by have := oper_sub 0 x y (some ⟨g, 0, none⟩) c w hc hl; exact this)
  have C14 : Hid (∀ w, Calls Tryz.prog 45 #[toV x, toV y] w fun e w' => e = .returned (toV (mulT (clT x) (clT y))) ∧ Below w.heap.size w w') := Lib.hid (fun w => mul_t x y hsx hsy w)
  have D14 : Hid (∀ (c g : Nat) (w : World), 2 ≤ c → Lst w (some ⟨g, 0, none⟩) [x, y] → Calls Tryz.prog 37 #[.int .i64 14, .int .i64 0, .slice (some ⟨g, 0, none⟩) 2 c] w fun e w' => e = .returned (toV (mulT (clT x) (clT y))) ∧ Below w.heap.size w w') := Lib.hid (fun c g w hc hl => by have := oper_mul 0 x y (some ⟨g, 0, none⟩) c w hc hl; exact this)
  have C15 : Hid (∀ w, Calls Tryz.prog 46 #[toV x, toV y] w fun e w' => e = .returned (toV (divT (clT x) (clT y))) ∧ Below w.heap.size w w') := Lib.hid (fun w => div_t x y hsx hsy w)
  have D15 : Hid (∀ (c g : Nat) (w : World), 2 ≤ c → Lst w (some ⟨g, 0, none⟩) [x, y] → Calls Tryz.prog 37 #[.int .i64 15, .int .i64 0, .slice (some ⟨g, 0, none⟩) 2 c] w fun e w' => e = .returned (toV (divT (clT x) (clT y))) ∧ Below w.heap.size w w') := Lib.hid (fun c g w hc hl => by have := oper_div 0 x y (some ⟨g, 0, none⟩) c w hc hl; exact this)
  have C16 : Hid (∀ w, Calls Tryz.prog 47 #[toV x, toV y] w fun e w' => e = .returned (toV (modT (clT x) (clT y))) ∧ Below w.heap.size w w') := Lib.hid (fun w => mod_t x y hsx hsy w)
  have D16 : Hid (∀ (c g : Nat) (w : World), 2 ≤ c → Lst w (some ⟨g, 0, none⟩) [x, y] → Calls Tryz.prog 37 #[.int .i64 16, .int .i64 0, .slice (some ⟨g, 0, none⟩) 2 c] w fun e w' => e = .returned (toV (modT (clT x) (clT y))) ∧ Below w.heap.size w w') := Lib.hid (fun c g w hc hl => by have := oper_mod 0 x y (some ⟨g, 0, none⟩) c w hc hl; exact this)
  have C17 : Hid (∀ w, Calls Tryz.prog 48 #[toV x] w fun e w' => e = .returned (toV (negT (clT x))) ∧ Below w.heap.size w w') := Lib.hid (fun w => neg_t x hsx w)
  have D17 : Hid (∀ (c g : Nat) (w : World), 2 ≤ c → Lst w (some ⟨g, 0, none⟩) [x, y] → Calls Tryz.prog 37 #[.int .i64 17, .int .i64 0, .slice (some ⟨g, 0, none⟩) 2 c] w fun e w' => e = .returned (toV (negT (clT x))) ∧ Below w.heap.size w w') := Lib.hid (fun c g w hc hl => by have := oper_neg 0 x y (some ⟨g, 0, none⟩) c w hc hl; rw [neg_sub] at this; exact this)
  generalize addT (clT x) (clT y) = r12 at C12 D12
  generalize subT (clT x) (clT y) = r13 at C13 D13
  generalize mulT (clT x) (clT y) = r14 at C14 D14
  generalize divT (clT x) (clT y) = r15 at C15 D15
  generalize modT (clT x) (clT y) = r16 at C16 D16
  generalize negT (clT x) = r17 at C17 D17
  clear hsx hsy ho
  obtain ⟨ka, na, sa⟩ := x
  obtain ⟨kb, nb, sb⟩ := y
  change Calls Tryz.prog 8 #[val ka na sa, val kb nb sb] w _
  have B0 : Below w.heap.size w (((w.alloc (.cells #[.int .i64 ka, .int .i64 na, .string sa] 23)).alloc (.cells #[.int .i64 kb, .int .i64 nb, .string sb] 23)).alloc (.cells #[.int .i64 ka, .int .i64 na, .string sa, .int .i64 kb, .int .i64 nb, .string sb] 23)) := by go_grown
  have I0 : Hid (L2 (ka, na, sa) (kb, nb, sb) w (((w.alloc (.cells #[.int .i64 ka, .int .i64 na, .string sa] 23)).alloc (.cells #[.int .i64 kb, .int .i64 nb, .string sb] 23)).alloc (.cells #[.int .i64 ka, .int .i64 na, .string sa, .int .i64 kb, .int .i64 nb, .string sb] 23))) := Lib.hid ⟨(heap_alloc_old _ _ (by simp only [World.size_alloc]; omega)).trans ((heap_alloc_old _ _ (by simp)).trans (heap_alloc_new w _)), (heap_alloc_old _ _ (by simp)).trans (new_at _ _ _ (by simp)), lst2 HSX.out HSY.out (new_at _ _ _ (by simp)), HO.out.below B0, B0⟩
  clear B0
  go_enter Tryz.func8, Tryz.ntmps8
  go_wp2_with fail
  refine (values_true _ I0.out.2.2.2.1).mono ?_
  rintro e w1 ⟨rfl, hb1⟩
  have I1 := Lib.hid (I0.out.below hb1)
  clear hb1
  have a0 : w1.cell? ⟨w.heap.size, 0, none⟩ = some (.int .i64 ka) := (cell_of_row w1 _ 0 _ _ _ I1.out.1).trans rfl
  have a1 : w1.cell? ⟨w.heap.size, 1, none⟩ = some (.int .i64 na) := (cell_of_row w1 _ 1 _ _ _ I1.out.1).trans rfl
  have a2 : w1.cell? ⟨w.heap.size, 2, none⟩ = some (.string sa) := (cell_of_row w1 _ 2 _ _ _ I1.out.1).trans rfl
  have d0 : w1.cell? ⟨w.heap.size + 1, 0, none⟩ = some (.int .i64 kb) := (cell_of_row w1 _ 0 _ _ _ I1.out.2.1).trans rfl
  have d1 : w1.cell? ⟨w.heap.size + 1, 1, none⟩ = some (.int .i64 nb) := (cell_of_row w1 _ 1 _ _ _ I1.out.2.1).trans rfl
  have d2 : w1.cell? ⟨w.heap.size + 1, 2, none⟩ = some (.string sb) := (cell_of_row w1 _ 2 _ _ _ I1.out.2.1).trans rfl
  have E12 := eq_self r12
  have G12 := run_guard23 r12 r12
  go_wp2_with fail
  refine (C12.out _).mono ?_
  rintro e w2 ⟨rfl, hb2⟩
  have I2 := Lib.hid (I1.out.below hb2)
  clear hb2
  clear a0 a1 a2 d0 d1 d2
  have a0 : w2.cell? ⟨w.heap.size, 0, none⟩ = some (.int .i64 ka) := (cell_of_row w2 _ 0 _ _ _ I2.out.1).trans rfl
  have a1 : w2.cell? ⟨w.heap.size, 1, none⟩ = some (.int .i64 na) := (cell_of_row w2 _ 1 _ _ _ I2.out.1).trans rfl
  have a2 : w2.cell? ⟨w.heap.size, 2, none⟩ = some (.string sa) := (cell_of_row w2 _ 2 _ _ _ I2.out.1).trans rfl
  have d0 : w2.cell? ⟨w.heap.size + 1, 0, none⟩ = some (.int .i64 kb) := (cell_of_row w2 _ 0 _ _ _ I2.out.2.1).trans rfl
  have d1 : w2.cell? ⟨w.heap.size + 1, 1, none⟩ = some (.int .i64 nb) := (cell_of_row w2 _ 1 _ _ _ I2.out.2.1).trans rfl
  have d2 : w2.cell? ⟨w.heap.size + 1, 2, none⟩ = some (.string sb) := (cell_of_row w2 _ 2 _ _ _ I2.out.2.1).trans rfl
  go_wp2_with fail
  refine (D12.out 2 (w.heap.size + 1 + 1) _ (Nat.le_refl _) I2.out.2.2.1).mono ?_
  rintro e w3 ⟨rfl, hb3⟩
  have I3 := Lib.hid (I2.out.below hb3)
  clear hb3
  clear a0 a1 a2 d0 d1 d2
  have a0 : w3.cell? ⟨w.heap.size, 0, none⟩ = some (.int .i64 ka) := (cell_of_row w3 _ 0 _ _ _ I3.out.1).trans rfl
  have a1 : w3.cell? ⟨w.heap.size, 1, none⟩ = some (.int .i64 na) := (cell_of_row w3 _ 1 _ _ _ I3.out.1).trans rfl
  have a2 : w3.cell? ⟨w.heap.size, 2, none⟩ = some (.string sa) := (cell_of_row w3 _ 2 _ _ _ I3.out.1).trans rfl
  have d0 : w3.cell? ⟨w.heap.size + 1, 0, none⟩ = some (.int .i64 kb) := (cell_of_row w3 _ 0 _ _ _ I3.out.2.1).trans rfl
  have d1 : w3.cell? ⟨w.heap.size + 1, 1, none⟩ = some (.int .i64 nb) := (cell_of_row w3 _ 1 _ _ _ I3.out.2.1).trans rfl
  have d2 : w3.cell? ⟨w.heap.size + 1, 2, none⟩ = some (.string sb) := (cell_of_row w3 _ 2 _ _ _ I3.out.2.1).trans rfl
  have E13 := eq_self r13
  have G13 := run_guard23 r13 r13
  go_wp2_with fail
  refine (C13.out _).mono ?_
  rintro e w4 ⟨rfl, hb4⟩
  have I4 := Lib.hid (I3.out.below hb4)
  clear hb4
  clear a0 a1 a2 d0 d1 d2
  have a0 : w4.cell? ⟨w.heap.size, 0, none⟩ = some (.int .i64 ka) := (cell_of_row w4 _ 0 _ _ _ I4.out.1).trans rfl
  have a1 : w4.cell? ⟨w.heap.size, 1, none⟩ = some (.int .i64 na) := (cell_of_row w4 _ 1 _ _ _ I4.out.1).trans rfl
  have a2 : w4.cell? ⟨w.heap.size, 2, none⟩ = some (.string sa) := (cell_of_row w4 _ 2 _ _ _ I4.out.1).trans rfl
  have d0 : w4.cell? ⟨w.heap.size + 1, 0, none⟩ = some (.int .i64 kb) := (cell_of_row w4 _ 0 _ _ _ I4.out.2.1).trans rfl
  have d1 : w4.cell? ⟨w.heap.size + 1, 1, none⟩ = some (.int .i64 nb) := (cell_of_row w4 _ 1 _ _ _ I4.out.2.1).trans rfl
  have d2 : w4.cell? ⟨w.heap.size + 1, 2, none⟩ = some (.string sb) := (cell_of_row w4 _ 2 _ _ _ I4.out.2.1).trans rfl
  go_wp2_with fail
  refine (D13.out 2 (w.heap.size + 1 + 1) _ (Nat.le_refl _) I4.out.2.2.1).mono ?_
  rintro e w5 ⟨rfl, hb5⟩
  have I5 := Lib.hid (I4.out.below hb5)
  clear hb5
  clear a0 a1 a2 d0 d1 d2
  have a0 : w5.cell? ⟨w.heap.size, 0, none⟩ = some (.int .i64 ka) := (cell_of_row w5 _ 0 _ _ _ I5.out.1).trans rfl
  have a1 : w5.cell? ⟨w.heap.size, 1, none⟩ = some (.int .i64 na) := (cell_of_row w5 _ 1 _ _ _ I5.out.1).trans rfl
  have a2 : w5.cell? ⟨w.heap.size, 2, none⟩ = some (.string sa) := (cell_of_row w5 _ 2 _ _ _ I5.out.1).trans rfl
  have d0 : w5.cell? ⟨w.heap.size + 1, 0, none⟩ = some (.int .i64 kb) := (cell_of_row w5 _ 0 _ _ _ I5.out.2.1).trans rfl
  have d1 : w5.cell? ⟨w.heap.size + 1, 1, none⟩ = some (.int .i64 nb) := (cell_of_row w5 _ 1 _ _ _ I5.out.2.1).trans rfl
  have d2 : w5.cell? ⟨w.heap.size + 1, 2, none⟩ = some (.string sb) := (cell_of_row w5 _ 2 _ _ _ I5.out.2.1).trans rfl
  have E14 := eq_self r14
  have G14 := run_guard23 r14 r14
  go_wp2_with fail
  refine (C14.out _).mono ?_
  rintro e w6 ⟨rfl, hb6⟩
  have I6 := Lib.hid (I5.out.below hb6)
  clear hb6
  clear a0 a1 a2 d0 d1 d2
  have a0 : w6.cell? ⟨w.heap.size, 0, none⟩ = some (.int .i64 ka) := (cell_of_row w6 _ 0 _ _ _ I6.out.1).trans rfl
  have a1 : w6.cell? ⟨w.heap.size, 1, none⟩ = some (.int .i64 na) := (cell_of_row w6 _ 1 _ _ _ I6.out.1).trans rfl
  have a2 : w6.cell? ⟨w.heap.size, 2, none⟩ = some (.string sa) := (cell_of_row w6 _ 2 _ _ _ I6.out.1).trans rfl
  have d0 : w6.cell? ⟨w.heap.size + 1, 0, none⟩ = some (.int .i64 kb) := (cell_of_row w6 _ 0 _ _ _ I6.out.2.1).trans rfl
  have d1 : w6.cell? ⟨w.heap.size + 1, 1, none⟩ = some (.int .i64 nb) := (cell_of_row w6 _ 1 _ _ _ I6.out.2.1).trans rfl
  have d2 : w6.cell? ⟨w.heap.size + 1, 2, none⟩ = some (.string sb) := (cell_of_row w6 _ 2 _ _ _ I6.out.2.1).trans rfl
  go_wp2_with fail
  refine (D14.out 2 (w.heap.size + 1 + 1) _ (Nat.le_refl _) I6.out.2.2.1).mono ?_
  rintro e w7 ⟨rfl, hb7⟩
  have I7 := Lib.hid (I6.out.below hb7)
  clear hb7
  clear a0 a1 a2 d0 d1 d2
  have a0 : w7.cell? ⟨w.heap.size, 0, none⟩ = some (.int .i64 ka) := (cell_of_row w7 _ 0 _ _ _ I7.out.1).trans rfl
  have a1 : w7.cell? ⟨w.heap.size, 1, none⟩ = some (.int .i64 na) := (cell_of_row w7 _ 1 _ _ _ I7.out.1).trans rfl
  have a2 : w7.cell? ⟨w.heap.size, 2, none⟩ = some (.string sa) := (cell_of_row w7 _ 2 _ _ _ I7.out.1).trans rfl
  have d0 : w7.cell? ⟨w.heap.size + 1, 0, none⟩ = some (.int .i64 kb) := (cell_of_row w7 _ 0 _ _ _ I7.out.2.1).trans rfl
  have d1 : w7.cell? ⟨w.heap.size + 1, 1, none⟩ = some (.int .i64 nb) := (cell_of_row w7 _ 1 _ _ _ I7.out.2.1).trans rfl
  have d2 : w7.cell? ⟨w.heap.size + 1, 2, none⟩ = some (.string sb) := (cell_of_row w7 _ 2 _ _ _ I7.out.2.1).trans rfl
  have E15 := eq_self r15
  have G15 := run_guard23 r15 r15
  go_wp2_with fail
  refine (C15.out _).mono ?_
  rintro e w8 ⟨rfl, hb8⟩
  have I8 := Lib.hid (I7.out.below hb8)
  clear hb8
  clear a0 a1 a2 d0 d1 d2
  have a0 : w8.cell? ⟨w.heap.size, 0, none⟩ = some (.int .i64 ka) := (cell_of_row w8 _ 0 _ _ _ I8.out.1).trans rfl
  have a1 : w8.cell? ⟨w.heap.size, 1, none⟩ = some (.int .i64 na) := (cell_of_row w8 _ 1 _ _ _ I8.out.1).trans rfl
  have a2 : w8.cell? ⟨w.heap.size, 2, none⟩ = some (.string sa) := (cell_of_row w8 _ 2 _ _ _ I8.out.1).trans rfl
  have d0 : w8.cell? ⟨w.heap.size + 1, 0, none⟩ = some (.int .i64 kb) := (cell_of_row w8 _ 0 _ _ _ I8.out.2.1).trans rfl
  have d1 : w8.cell? ⟨w.heap.size + 1, 1, none⟩ = some (.int .i64 nb) := (cell_of_row w8 _ 1 _ _ _ I8.out.2.1).trans rfl
  have d2 : w8.cell? ⟨w.heap.size + 1, 2, none⟩ = some (.string sb) := (cell_of_row w8 _ 2 _ _ _ I8.out.2.1).trans rfl
  go_wp2_with fail
  refine (D15.out 2 (w.heap.size + 1 + 1) _ (Nat.le_refl _) I8.out.2.2.1).mono ?_
  rintro e w9 ⟨rfl, hb9⟩
  have I9 := Lib.hid (I8.out.below hb9)
  clear hb9
  clear a0 a1 a2 d0 d1 d2
  have a0 : w9.cell? ⟨w.heap.size, 0, none⟩ = some (.int .i64 ka) := (cell_of_row w9 _ 0 _ _ _ I9.out.1).trans rfl
  have a1 : w9.cell? ⟨w.heap.size, 1, none⟩ = some (.int .i64 na) := (cell_of_row w9 _ 1 _ _ _ I9.out.1).trans rfl
  have a2 : w9.cell? ⟨w.heap.size, 2, none⟩ = some (.string sa) := (cell_of_row w9 _ 2 _ _ _ I9.out.1).trans rfl
  have d0 : w9.cell? ⟨w.heap.size + 1, 0, none⟩ = some (.int .i64 kb) := (cell_of_row w9 _ 0 _ _ _ I9.out.2.1).trans rfl
  have d1 : w9.cell? ⟨w.heap.size + 1, 1, none⟩ = some (.int .i64 nb) := (cell_of_row w9 _ 1 _ _ _ I9.out.2.1).trans rfl
  have d2 : w9.cell? ⟨w.heap.size + 1, 2, none⟩ = some (.string sb) := (cell_of_row w9 _ 2 _ _ _ I9.out.2.1).trans rfl
  have E16 := eq_self r16
  have G16 := run_guard23 r16 r16
  go_wp2_with fail
  refine (C16.out _).mono ?_
  rintro e w10 ⟨rfl, hb10⟩
  have I10 := Lib.hid (I9.out.below hb10)
  clear hb10
  clear a0 a1 a2 d0 d1 d2
  have a0 : w10.cell? ⟨w.heap.size, 0, none⟩ = some (.int .i64 ka) := (cell_of_row w10 _ 0 _ _ _ I10.out.1).trans rfl
  have a1 : w10.cell? ⟨w.heap.size, 1, none⟩ = some (.int .i64 na) := (cell_of_row w10 _ 1 _ _ _ I10.out.1).trans rfl
  have a2 : w10.cell? ⟨w.heap.size, 2, none⟩ = some (.string sa) := (cell_of_row w10 _ 2 _ _ _ I10.out.1).trans rfl
  have d0 : w10.cell? ⟨w.heap.size + 1, 0, none⟩ = some (.int .i64 kb) := (cell_of_row w10 _ 0 _ _ _ I10.out.2.1).trans rfl
  have d1 : w10.cell? ⟨w.heap.size + 1, 1, none⟩ = some (.int .i64 nb) := (cell_of_row w10 _ 1 _ _ _ I10.out.2.1).trans rfl
  have d2 : w10.cell? ⟨w.heap.size + 1, 2, none⟩ = some (.string sb) := (cell_of_row w10 _ 2 _ _ _ I10.out.2.1).trans rfl
  go_wp2_with fail
  refine (D16.out 2 (w.heap.size + 1 + 1) _ (Nat.le_refl _) I10.out.2.2.1).mono ?_
  rintro e w11 ⟨rfl, hb11⟩
  have I11 := Lib.hid (I10.out.below hb11)
  clear hb11
  clear a0 a1 a2 d0 d1 d2
  have a0 : w11.cell? ⟨w.heap.size, 0, none⟩ = some (.int .i64 ka) := (cell_of_row w11 _ 0 _ _ _ I11.out.1).trans rfl
  have a1 : w11.cell? ⟨w.heap.size, 1, none⟩ = some (.int .i64 na) := (cell_of_row w11 _ 1 _ _ _ I11.out.1).trans rfl
  have a2 : w11.cell? ⟨w.heap.size, 2, none⟩ = some (.string sa) := (cell_of_row w11 _ 2 _ _ _ I11.out.1).trans rfl
  have d0 : w11.cell? ⟨w.heap.size + 1, 0, none⟩ = some (.int .i64 kb) := (cell_of_row w11 _ 0 _ _ _ I11.out.2.1).trans rfl
  have d1 : w11.cell? ⟨w.heap.size + 1, 1, none⟩ = some (.int .i64 nb) := (cell_of_row w11 _ 1 _ _ _ I11.out.2.1).trans rfl
  have d2 : w11.cell? ⟨w.heap.size + 1, 2, none⟩ = some (.string sb) := (cell_of_row w11 _ 2 _ _ _ I11.out.2.1).trans rfl
  have E17 := eq_self r17
  have G17 := run_guard23 r17 r17
  go_wp2_with fail
  refine (C17.out _).mono ?_
  rintro e w12 ⟨rfl, hb12⟩
  have I12 := Lib.hid (I11.out.below hb12)
  clear hb12
  clear a0 a1 a2 d0 d1 d2
  have a0 : w12.cell? ⟨w.heap.size, 0, none⟩ = some (.int .i64 ka) := (cell_of_row w12 _ 0 _ _ _ I12.out.1).trans rfl
  have a1 : w12.cell? ⟨w.heap.size, 1, none⟩ = some (.int .i64 na) := (cell_of_row w12 _ 1 _ _ _ I12.out.1).trans rfl
  have a2 : w12.cell? ⟨w.heap.size, 2, none⟩ = some (.string sa) := (cell_of_row w12 _ 2 _ _ _ I12.out.1).trans rfl
  have d0 : w12.cell? ⟨w.heap.size + 1, 0, none⟩ = some (.int .i64 kb) := (cell_of_row w12 _ 0 _ _ _ I12.out.2.1).trans rfl
  have d1 : w12.cell? ⟨w.heap.size + 1, 1, none⟩ = some (.int .i64 nb) := (cell_of_row w12 _ 1 _ _ _ I12.out.2.1).trans rfl
  have d2 : w12.cell? ⟨w.heap.size + 1, 2, none⟩ = some (.string sb) := (cell_of_row w12 _ 2 _ _ _ I12.out.2.1).trans rfl
  go_wp2_with fail
  refine (D17.out 2 (w.heap.size + 1 + 1) _ (Nat.le_refl _) I12.out.2.2.1).mono ?_
  rintro e w13 ⟨rfl, hb13⟩
  have I13 := Lib.hid (I12.out.below hb13)
  clear hb13
  clear a0 a1 a2 d0 d1 d2
  have a0 : w13.cell? ⟨w.heap.size, 0, none⟩ = some (.int .i64 ka) := (cell_of_row w13 _ 0 _ _ _ I13.out.1).trans rfl
  have a1 : w13.cell? ⟨w.heap.size, 1, none⟩ = some (.int .i64 na) := (cell_of_row w13 _ 1 _ _ _ I13.out.1).trans rfl
  have a2 : w13.cell? ⟨w.heap.size, 2, none⟩ = some (.string sa) := (cell_of_row w13 _ 2 _ _ _ I13.out.1).trans rfl
  have d0 : w13.cell? ⟨w.heap.size + 1, 0, none⟩ = some (.int .i64 kb) := (cell_of_row w13 _ 0 _ _ _ I13.out.2.1).trans rfl
  have d1 : w13.cell? ⟨w.heap.size + 1, 1, none⟩ = some (.int .i64 nb) := (cell_of_row w13 _ 1 _ _ _ I13.out.2.1).trans rfl
  have d2 : w13.cell? ⟨w.heap.size + 1, 2, none⟩ = some (.string sb) := (cell_of_row w13 _ 2 _ _ _ I13.out.2.1).trans rfl
  go_wp2
  go_ret
  exact ⟨rfl, I13.out.2.2.2.2⟩
end YtabojeleomfgnaaGreatDoor
end Go.Proofs
