/- ValueWords: the law. -/
import Derived.Test.YtabojeleomfgnaaGreatDoorO4
import Derived.Test.YtabojeleomfgnaaGreatDoorWd4
import Derived.Test.YtabojeleomfgnaaGreatDoorR1
import Derived.Test.YtabojeleomfgnaaGreatDoorS7
namespace Go.Proofs
open Go.RowKit
namespace YtabojeleomfgnaaGreatDoor
set_option maxRecDepth 100000
theorem lst3 {g : Nat} {x y z : V3} {w : World} (hx : Sz x) (hy : Sz y) (hz : Sz z) (h : w.heap[g]? = some (.cells #[.int .i64 x.1, .int .i64 x.2.1, .string x.2.2, .int .i64 y.1, .int .i64 y.2.1, .string y.2.2, .int .i64 z.1, .int .i64 z.2.1, .string z.2.2] 23 (0, 0))) : Lst w (some ⟨g, 0, none⟩) [x, y, z] := fun k hk => by
  have c := fun j => cell_of_row w g j _ _ _ h
  match k, hk with
  | 0, _ => exact ⟨g, 0, rfl, (c 0).trans rfl, (c 1).trans rfl, (c 2).trans rfl, hx⟩
  | 1, _ => exact ⟨g, 0, rfl, (c 3).trans rfl, (c 4).trans rfl, (c 5).trans rfl, hy⟩
  | 2, _ => exact ⟨g, 0, rfl, (c 6).trans rfl, (c 7).trans rfl, (c 8).trans rfl, hz⟩
/-- the three in their boxes, the list of them, the table of operations -/
def L3 (x y z : V3) (w0 w : World) : Prop :=
  w.heap[w0.heap.size]? = some (.cells (cells x) 23 (0, 0)) ∧ w.heap[w0.heap.size + 1]? = some (.cells (cells y) 23 (0, 0)) ∧ w.heap[w0.heap.size + 2]? = some (.cells (cells z) 23 (0, 0)) ∧ Lst w (some ⟨w0.heap.size + 1 + 1 + 1, 0, none⟩) [x, y, z] ∧ Ops w ∧ Below w0.heap.size w0 w
theorem L3.below {x y z : V3} {w0 w w' : World} (h : L3 x y z w0 w) (hb : Below w.heap.size w w') : L3 x y z w0 w' :=
  ⟨(hb.block _ (lt_of_block h.1)).trans h.1, (hb.block _ (lt_of_block h.2.1)).trans h.2.1, (hb.block _ (lt_of_block h.2.2.1)).trans h.2.2.1, h.2.2.2.1.below hb, h.2.2.2.2.1.below hb, below_call h.2.2.2.2.2 hb⟩
set_option maxHeartbeats 4000000 in
theorem law_words (x y z : V3) (hsx : Sz x) (hsy : Sz y) (hsz : Sz z) (w : World) (ho : Ops w) :
    Calls Tryz.prog 9 #[toV x, toV y, toV z] w fun e w' => e = .returned (.bool true) ∧ Below w.heap.size w w' := by
  have HSX := Lib.hid hsx
  have HSY := Lib.hid hsy
  have HSZ := Lib.hid hsz
  have HO := Lib.hid ho
  have C18 : Hid (∀ w, Calls Tryz.prog 49 #[toV x, toV y] w fun e w' => e = .returned (toV (concatT (clT x) (clT y))) ∧ Below w.heap.size w w') := Lib.hid (fun w => concat_t x y hsx hsy w)
  have D18 : Hid (∀ (c g : Nat) (w : World), 3 ≤ c → Lst w (some ⟨g, 0, none⟩) [x, y, z] → Calls Tryz.prog 37 #[.int .i64 18, .int .i64 0, .slice (some ⟨g, 0, none⟩) 3 c] w fun e w' => e = .returned (toV (concatT (clT x) (clT y))) ∧ Below w.heap.size w w') := Lib.hid (fun c g w hc hl => oper3_concat 0 x y z (some ⟨g, 0, none⟩) c w hc hl)
  have C22 : Hid (∀ w, Calls Tryz.prog 50 #[toV x] w fun e w' => e = .returned (toV (lengthT (clT x))) ∧ Below w.heap.size w w') := Lib.hid (fun w => length_t x hsx w)
  have D22 : Hid (∀ (c g : Nat) (w : World), 3 ≤ c → Lst w (some ⟨g, 0, none⟩) [x, y, z] → Calls Tryz.prog 37 #[.int .i64 22, .int .i64 0, .slice (some ⟨g, 0, none⟩) 3 c] w fun e w' => e = .returned (toV (lengthT (clT x))) ∧ Below w.heap.size w w') := Lib.hid (fun c g w hc hl => oper3_length 0 x y z (some ⟨g, 0, none⟩) c w hc hl)
  have C20 : Hid (∀ w, Calls Tryz.prog 51 #[toV x] w fun e w' => e = .returned (toV (lowerT (clT x))) ∧ Below w.heap.size w w') := Lib.hid (fun w => lower_op_t x hsx w)
  have D20 : Hid (∀ (c g : Nat) (w : World), 3 ≤ c → Lst w (some ⟨g, 0, none⟩) [x, y, z] → Calls Tryz.prog 37 #[.int .i64 20, .int .i64 0, .slice (some ⟨g, 0, none⟩) 3 c] w fun e w' => e = .returned (toV (lowerT (clT x))) ∧ Below w.heap.size w w') := Lib.hid (fun c g w hc hl => oper3_lower 0 x y z (some ⟨g, 0, none⟩) c w hc hl)
  have C21 : Hid (∀ w, Calls Tryz.prog 52 #[toV x] w fun e w' => e = .returned (toV (upperT (clT x))) ∧ Below w.heap.size w w') := Lib.hid (fun w => upper_op_t x hsx w)
  have D21 : Hid (∀ (c g : Nat) (w : World), 3 ≤ c → Lst w (some ⟨g, 0, none⟩) [x, y, z] → Calls Tryz.prog 37 #[.int .i64 21, .int .i64 0, .slice (some ⟨g, 0, none⟩) 3 c] w fun e w' => e = .returned (toV (upperT (clT x))) ∧ Below w.heap.size w w') := Lib.hid (fun c g w hc hl => oper3_upper 0 x y z (some ⟨g, 0, none⟩) c w hc hl)
  have C23 : Hid (∀ w, Calls Tryz.prog 53 #[toV x, toV y, toV z] w fun e w' => e = .returned (toV (partT (clT x) (clT y) (clT z))) ∧ Below w.heap.size w w') := Lib.hid (fun w => part_t x y z hsx hsy hsz w)
  have D23 : Hid (∀ (c g : Nat) (w : World), 3 ≤ c → Lst w (some ⟨g, 0, none⟩) [x, y, z] → Calls Tryz.prog 37 #[.int .i64 23, .int .i64 0, .slice (some ⟨g, 0, none⟩) 3 c] w fun e w' => e = .returned (toV (partT (clT x) (clT y) (clT z))) ∧ Below w.heap.size w w') := Lib.hid (fun c g w hc hl => oper3_part 0 x y z (some ⟨g, 0, none⟩) c w hc hl)
  generalize concatT (clT x) (clT y) = r18 at C18 D18
  generalize lengthT (clT x) = r22 at C22 D22
  generalize lowerT (clT x) = r20 at C20 D20
  generalize upperT (clT x) = r21 at C21 D21
  generalize partT (clT x) (clT y) (clT z) = r23 at C23 D23
  clear hsx hsy hsz ho
  obtain ⟨ka, na, sa⟩ := x
  obtain ⟨kb, nb, sb⟩ := y
  obtain ⟨kc, nc, sc⟩ := z
  change Calls Tryz.prog 9 #[val ka na sa, val kb nb sb, val kc nc sc] w _
  have B0 : Below w.heap.size w ((((w.alloc (.cells #[.int .i64 ka, .int .i64 na, .string sa] 23)).alloc (.cells #[.int .i64 kb, .int .i64 nb, .string sb] 23)).alloc (.cells #[.int .i64 kc, .int .i64 nc, .string sc] 23)).alloc (.cells #[.int .i64 ka, .int .i64 na, .string sa, .int .i64 kb, .int .i64 nb, .string sb, .int .i64 kc, .int .i64 nc, .string sc] 23)) := by go_grown
  have I0 : Hid (L3 (ka, na, sa) (kb, nb, sb) (kc, nc, sc) w ((((w.alloc (.cells #[.int .i64 ka, .int .i64 na, .string sa] 23)).alloc (.cells #[.int .i64 kb, .int .i64 nb, .string sb] 23)).alloc (.cells #[.int .i64 kc, .int .i64 nc, .string sc] 23)).alloc (.cells #[.int .i64 ka, .int .i64 na, .string sa, .int .i64 kb, .int .i64 nb, .string sb, .int .i64 kc, .int .i64 nc, .string sc] 23))) := Lib.hid ⟨(heap_alloc_old _ _ (by simp only [World.size_alloc]; omega)).trans ((heap_alloc_old _ _ (by simp only [World.size_alloc]; omega)).trans ((heap_alloc_old _ _ (by simp)).trans (heap_alloc_new w _))), (heap_alloc_old _ _ (by simp only [World.size_alloc]; omega)).trans ((heap_alloc_old _ _ (by simp)).trans (new_at _ _ _ (by simp))), (heap_alloc_old _ _ (by simp)).trans (new_at _ _ _ (by simp)), lst3 HSX.out HSY.out HSZ.out (new_at _ _ _ (by simp)), HO.out.below B0, B0⟩
  clear B0
  go_enter Tryz.func9, Tryz.ntmps9
  go_wp2_with fail
  refine (values_true _ I0.out.2.2.2.2.1).mono ?_
  rintro e w1 ⟨rfl, hb1⟩
  have I1 := Lib.hid (I0.out.below hb1)
  clear hb1
  have a0 : w1.cell? ⟨w.heap.size, 0, none⟩ = some (.int .i64 ka) := (cell_of_row w1 _ 0 _ _ _ I1.out.1).trans rfl
  have a1 : w1.cell? ⟨w.heap.size, 1, none⟩ = some (.int .i64 na) := (cell_of_row w1 _ 1 _ _ _ I1.out.1).trans rfl
  have a2 : w1.cell? ⟨w.heap.size, 2, none⟩ = some (.string sa) := (cell_of_row w1 _ 2 _ _ _ I1.out.1).trans rfl
  have d0 : w1.cell? ⟨w.heap.size + 1, 0, none⟩ = some (.int .i64 kb) := (cell_of_row w1 _ 0 _ _ _ I1.out.2.1).trans rfl
  have d1 : w1.cell? ⟨w.heap.size + 1, 1, none⟩ = some (.int .i64 nb) := (cell_of_row w1 _ 1 _ _ _ I1.out.2.1).trans rfl
  have d2 : w1.cell? ⟨w.heap.size + 1, 2, none⟩ = some (.string sb) := (cell_of_row w1 _ 2 _ _ _ I1.out.2.1).trans rfl
  have f0 : w1.cell? ⟨w.heap.size + 2, 0, none⟩ = some (.int .i64 kc) := (cell_of_row w1 _ 0 _ _ _ I1.out.2.2.1).trans rfl
  have f1 : w1.cell? ⟨w.heap.size + 2, 1, none⟩ = some (.int .i64 nc) := (cell_of_row w1 _ 1 _ _ _ I1.out.2.2.1).trans rfl
  have f2 : w1.cell? ⟨w.heap.size + 2, 2, none⟩ = some (.string sc) := (cell_of_row w1 _ 2 _ _ _ I1.out.2.2.1).trans rfl
  have E18 := eq_self r18
  have G18 := run_guard23 r18 r18
  go_wp2_with fail
  refine (C18.out _).mono ?_
  rintro e w2 ⟨rfl, hb2⟩
  have I2 := Lib.hid (I1.out.below hb2)
  clear hb2
  clear a0 a1 a2 d0 d1 d2 f0 f1 f2
  have a0 : w2.cell? ⟨w.heap.size, 0, none⟩ = some (.int .i64 ka) := (cell_of_row w2 _ 0 _ _ _ I2.out.1).trans rfl
  have a1 : w2.cell? ⟨w.heap.size, 1, none⟩ = some (.int .i64 na) := (cell_of_row w2 _ 1 _ _ _ I2.out.1).trans rfl
  have a2 : w2.cell? ⟨w.heap.size, 2, none⟩ = some (.string sa) := (cell_of_row w2 _ 2 _ _ _ I2.out.1).trans rfl
  have d0 : w2.cell? ⟨w.heap.size + 1, 0, none⟩ = some (.int .i64 kb) := (cell_of_row w2 _ 0 _ _ _ I2.out.2.1).trans rfl
  have d1 : w2.cell? ⟨w.heap.size + 1, 1, none⟩ = some (.int .i64 nb) := (cell_of_row w2 _ 1 _ _ _ I2.out.2.1).trans rfl
  have d2 : w2.cell? ⟨w.heap.size + 1, 2, none⟩ = some (.string sb) := (cell_of_row w2 _ 2 _ _ _ I2.out.2.1).trans rfl
  have f0 : w2.cell? ⟨w.heap.size + 2, 0, none⟩ = some (.int .i64 kc) := (cell_of_row w2 _ 0 _ _ _ I2.out.2.2.1).trans rfl
  have f1 : w2.cell? ⟨w.heap.size + 2, 1, none⟩ = some (.int .i64 nc) := (cell_of_row w2 _ 1 _ _ _ I2.out.2.2.1).trans rfl
  have f2 : w2.cell? ⟨w.heap.size + 2, 2, none⟩ = some (.string sc) := (cell_of_row w2 _ 2 _ _ _ I2.out.2.2.1).trans rfl
  go_wp2_with fail
  refine (D18.out 3 (w.heap.size + 1 + 1 + 1) _ (Nat.le_refl _) I2.out.2.2.2.1).mono ?_
  rintro e w3 ⟨rfl, hb3⟩
  have I3 := Lib.hid (I2.out.below hb3)
  clear hb3
  clear a0 a1 a2 d0 d1 d2 f0 f1 f2
  have a0 : w3.cell? ⟨w.heap.size, 0, none⟩ = some (.int .i64 ka) := (cell_of_row w3 _ 0 _ _ _ I3.out.1).trans rfl
  have a1 : w3.cell? ⟨w.heap.size, 1, none⟩ = some (.int .i64 na) := (cell_of_row w3 _ 1 _ _ _ I3.out.1).trans rfl
  have a2 : w3.cell? ⟨w.heap.size, 2, none⟩ = some (.string sa) := (cell_of_row w3 _ 2 _ _ _ I3.out.1).trans rfl
  have d0 : w3.cell? ⟨w.heap.size + 1, 0, none⟩ = some (.int .i64 kb) := (cell_of_row w3 _ 0 _ _ _ I3.out.2.1).trans rfl
  have d1 : w3.cell? ⟨w.heap.size + 1, 1, none⟩ = some (.int .i64 nb) := (cell_of_row w3 _ 1 _ _ _ I3.out.2.1).trans rfl
  have d2 : w3.cell? ⟨w.heap.size + 1, 2, none⟩ = some (.string sb) := (cell_of_row w3 _ 2 _ _ _ I3.out.2.1).trans rfl
  have f0 : w3.cell? ⟨w.heap.size + 2, 0, none⟩ = some (.int .i64 kc) := (cell_of_row w3 _ 0 _ _ _ I3.out.2.2.1).trans rfl
  have f1 : w3.cell? ⟨w.heap.size + 2, 1, none⟩ = some (.int .i64 nc) := (cell_of_row w3 _ 1 _ _ _ I3.out.2.2.1).trans rfl
  have f2 : w3.cell? ⟨w.heap.size + 2, 2, none⟩ = some (.string sc) := (cell_of_row w3 _ 2 _ _ _ I3.out.2.2.1).trans rfl
  have E22 := eq_self r22
  have G22 := run_guard23 r22 r22
  go_wp2_with fail
  refine (C22.out _).mono ?_
  rintro e w4 ⟨rfl, hb4⟩
  have I4 := Lib.hid (I3.out.below hb4)
  clear hb4
  clear a0 a1 a2 d0 d1 d2 f0 f1 f2
  have a0 : w4.cell? ⟨w.heap.size, 0, none⟩ = some (.int .i64 ka) := (cell_of_row w4 _ 0 _ _ _ I4.out.1).trans rfl
  have a1 : w4.cell? ⟨w.heap.size, 1, none⟩ = some (.int .i64 na) := (cell_of_row w4 _ 1 _ _ _ I4.out.1).trans rfl
  have a2 : w4.cell? ⟨w.heap.size, 2, none⟩ = some (.string sa) := (cell_of_row w4 _ 2 _ _ _ I4.out.1).trans rfl
  have d0 : w4.cell? ⟨w.heap.size + 1, 0, none⟩ = some (.int .i64 kb) := (cell_of_row w4 _ 0 _ _ _ I4.out.2.1).trans rfl
  have d1 : w4.cell? ⟨w.heap.size + 1, 1, none⟩ = some (.int .i64 nb) := (cell_of_row w4 _ 1 _ _ _ I4.out.2.1).trans rfl
  have d2 : w4.cell? ⟨w.heap.size + 1, 2, none⟩ = some (.string sb) := (cell_of_row w4 _ 2 _ _ _ I4.out.2.1).trans rfl
  have f0 : w4.cell? ⟨w.heap.size + 2, 0, none⟩ = some (.int .i64 kc) := (cell_of_row w4 _ 0 _ _ _ I4.out.2.2.1).trans rfl
  have f1 : w4.cell? ⟨w.heap.size + 2, 1, none⟩ = some (.int .i64 nc) := (cell_of_row w4 _ 1 _ _ _ I4.out.2.2.1).trans rfl
  have f2 : w4.cell? ⟨w.heap.size + 2, 2, none⟩ = some (.string sc) := (cell_of_row w4 _ 2 _ _ _ I4.out.2.2.1).trans rfl
  go_wp2_with fail
  refine (D22.out 3 (w.heap.size + 1 + 1 + 1) _ (Nat.le_refl _) I4.out.2.2.2.1).mono ?_
  rintro e w5 ⟨rfl, hb5⟩
  have I5 := Lib.hid (I4.out.below hb5)
  clear hb5
  clear a0 a1 a2 d0 d1 d2 f0 f1 f2
  have a0 : w5.cell? ⟨w.heap.size, 0, none⟩ = some (.int .i64 ka) := (cell_of_row w5 _ 0 _ _ _ I5.out.1).trans rfl
  have a1 : w5.cell? ⟨w.heap.size, 1, none⟩ = some (.int .i64 na) := (cell_of_row w5 _ 1 _ _ _ I5.out.1).trans rfl
  have a2 : w5.cell? ⟨w.heap.size, 2, none⟩ = some (.string sa) := (cell_of_row w5 _ 2 _ _ _ I5.out.1).trans rfl
  have d0 : w5.cell? ⟨w.heap.size + 1, 0, none⟩ = some (.int .i64 kb) := (cell_of_row w5 _ 0 _ _ _ I5.out.2.1).trans rfl
  have d1 : w5.cell? ⟨w.heap.size + 1, 1, none⟩ = some (.int .i64 nb) := (cell_of_row w5 _ 1 _ _ _ I5.out.2.1).trans rfl
  have d2 : w5.cell? ⟨w.heap.size + 1, 2, none⟩ = some (.string sb) := (cell_of_row w5 _ 2 _ _ _ I5.out.2.1).trans rfl
  have f0 : w5.cell? ⟨w.heap.size + 2, 0, none⟩ = some (.int .i64 kc) := (cell_of_row w5 _ 0 _ _ _ I5.out.2.2.1).trans rfl
  have f1 : w5.cell? ⟨w.heap.size + 2, 1, none⟩ = some (.int .i64 nc) := (cell_of_row w5 _ 1 _ _ _ I5.out.2.2.1).trans rfl
  have f2 : w5.cell? ⟨w.heap.size + 2, 2, none⟩ = some (.string sc) := (cell_of_row w5 _ 2 _ _ _ I5.out.2.2.1).trans rfl
  have E20 := eq_self r20
  have G20 := run_guard23 r20 r20
  go_wp2_with fail
  refine (C20.out _).mono ?_
  rintro e w6 ⟨rfl, hb6⟩
  have I6 := Lib.hid (I5.out.below hb6)
  clear hb6
  clear a0 a1 a2 d0 d1 d2 f0 f1 f2
  have a0 : w6.cell? ⟨w.heap.size, 0, none⟩ = some (.int .i64 ka) := (cell_of_row w6 _ 0 _ _ _ I6.out.1).trans rfl
  have a1 : w6.cell? ⟨w.heap.size, 1, none⟩ = some (.int .i64 na) := (cell_of_row w6 _ 1 _ _ _ I6.out.1).trans rfl
  have a2 : w6.cell? ⟨w.heap.size, 2, none⟩ = some (.string sa) := (cell_of_row w6 _ 2 _ _ _ I6.out.1).trans rfl
  have d0 : w6.cell? ⟨w.heap.size + 1, 0, none⟩ = some (.int .i64 kb) := (cell_of_row w6 _ 0 _ _ _ I6.out.2.1).trans rfl
  have d1 : w6.cell? ⟨w.heap.size + 1, 1, none⟩ = some (.int .i64 nb) := (cell_of_row w6 _ 1 _ _ _ I6.out.2.1).trans rfl
  have d2 : w6.cell? ⟨w.heap.size + 1, 2, none⟩ = some (.string sb) := (cell_of_row w6 _ 2 _ _ _ I6.out.2.1).trans rfl
  have f0 : w6.cell? ⟨w.heap.size + 2, 0, none⟩ = some (.int .i64 kc) := (cell_of_row w6 _ 0 _ _ _ I6.out.2.2.1).trans rfl
  have f1 : w6.cell? ⟨w.heap.size + 2, 1, none⟩ = some (.int .i64 nc) := (cell_of_row w6 _ 1 _ _ _ I6.out.2.2.1).trans rfl
  have f2 : w6.cell? ⟨w.heap.size + 2, 2, none⟩ = some (.string sc) := (cell_of_row w6 _ 2 _ _ _ I6.out.2.2.1).trans rfl
  go_wp2_with fail
  refine (D20.out 3 (w.heap.size + 1 + 1 + 1) _ (Nat.le_refl _) I6.out.2.2.2.1).mono ?_
  rintro e w7 ⟨rfl, hb7⟩
  have I7 := Lib.hid (I6.out.below hb7)
  clear hb7
  clear a0 a1 a2 d0 d1 d2 f0 f1 f2
  have a0 : w7.cell? ⟨w.heap.size, 0, none⟩ = some (.int .i64 ka) := (cell_of_row w7 _ 0 _ _ _ I7.out.1).trans rfl
  have a1 : w7.cell? ⟨w.heap.size, 1, none⟩ = some (.int .i64 na) := (cell_of_row w7 _ 1 _ _ _ I7.out.1).trans rfl
  have a2 : w7.cell? ⟨w.heap.size, 2, none⟩ = some (.string sa) := (cell_of_row w7 _ 2 _ _ _ I7.out.1).trans rfl
  have d0 : w7.cell? ⟨w.heap.size + 1, 0, none⟩ = some (.int .i64 kb) := (cell_of_row w7 _ 0 _ _ _ I7.out.2.1).trans rfl
  have d1 : w7.cell? ⟨w.heap.size + 1, 1, none⟩ = some (.int .i64 nb) := (cell_of_row w7 _ 1 _ _ _ I7.out.2.1).trans rfl
  have d2 : w7.cell? ⟨w.heap.size + 1, 2, none⟩ = some (.string sb) := (cell_of_row w7 _ 2 _ _ _ I7.out.2.1).trans rfl
  have f0 : w7.cell? ⟨w.heap.size + 2, 0, none⟩ = some (.int .i64 kc) := (cell_of_row w7 _ 0 _ _ _ I7.out.2.2.1).trans rfl
  have f1 : w7.cell? ⟨w.heap.size + 2, 1, none⟩ = some (.int .i64 nc) := (cell_of_row w7 _ 1 _ _ _ I7.out.2.2.1).trans rfl
  have f2 : w7.cell? ⟨w.heap.size + 2, 2, none⟩ = some (.string sc) := (cell_of_row w7 _ 2 _ _ _ I7.out.2.2.1).trans rfl
  have E21 := eq_self r21
  have G21 := run_guard23 r21 r21
  go_wp2_with fail
  refine (C21.out _).mono ?_
  rintro e w8 ⟨rfl, hb8⟩
  have I8 := Lib.hid (I7.out.below hb8)
  clear hb8
  clear a0 a1 a2 d0 d1 d2 f0 f1 f2
  have a0 : w8.cell? ⟨w.heap.size, 0, none⟩ = some (.int .i64 ka) := (cell_of_row w8 _ 0 _ _ _ I8.out.1).trans rfl
  have a1 : w8.cell? ⟨w.heap.size, 1, none⟩ = some (.int .i64 na) := (cell_of_row w8 _ 1 _ _ _ I8.out.1).trans rfl
  have a2 : w8.cell? ⟨w.heap.size, 2, none⟩ = some (.string sa) := (cell_of_row w8 _ 2 _ _ _ I8.out.1).trans rfl
  have d0 : w8.cell? ⟨w.heap.size + 1, 0, none⟩ = some (.int .i64 kb) := (cell_of_row w8 _ 0 _ _ _ I8.out.2.1).trans rfl
  have d1 : w8.cell? ⟨w.heap.size + 1, 1, none⟩ = some (.int .i64 nb) := (cell_of_row w8 _ 1 _ _ _ I8.out.2.1).trans rfl
  have d2 : w8.cell? ⟨w.heap.size + 1, 2, none⟩ = some (.string sb) := (cell_of_row w8 _ 2 _ _ _ I8.out.2.1).trans rfl
  have f0 : w8.cell? ⟨w.heap.size + 2, 0, none⟩ = some (.int .i64 kc) := (cell_of_row w8 _ 0 _ _ _ I8.out.2.2.1).trans rfl
  have f1 : w8.cell? ⟨w.heap.size + 2, 1, none⟩ = some (.int .i64 nc) := (cell_of_row w8 _ 1 _ _ _ I8.out.2.2.1).trans rfl
  have f2 : w8.cell? ⟨w.heap.size + 2, 2, none⟩ = some (.string sc) := (cell_of_row w8 _ 2 _ _ _ I8.out.2.2.1).trans rfl
  go_wp2_with fail
  refine (D21.out 3 (w.heap.size + 1 + 1 + 1) _ (Nat.le_refl _) I8.out.2.2.2.1).mono ?_
  rintro e w9 ⟨rfl, hb9⟩
  have I9 := Lib.hid (I8.out.below hb9)
  clear hb9
  clear a0 a1 a2 d0 d1 d2 f0 f1 f2
  have a0 : w9.cell? ⟨w.heap.size, 0, none⟩ = some (.int .i64 ka) := (cell_of_row w9 _ 0 _ _ _ I9.out.1).trans rfl
  have a1 : w9.cell? ⟨w.heap.size, 1, none⟩ = some (.int .i64 na) := (cell_of_row w9 _ 1 _ _ _ I9.out.1).trans rfl
  have a2 : w9.cell? ⟨w.heap.size, 2, none⟩ = some (.string sa) := (cell_of_row w9 _ 2 _ _ _ I9.out.1).trans rfl
  have d0 : w9.cell? ⟨w.heap.size + 1, 0, none⟩ = some (.int .i64 kb) := (cell_of_row w9 _ 0 _ _ _ I9.out.2.1).trans rfl
  have d1 : w9.cell? ⟨w.heap.size + 1, 1, none⟩ = some (.int .i64 nb) := (cell_of_row w9 _ 1 _ _ _ I9.out.2.1).trans rfl
  have d2 : w9.cell? ⟨w.heap.size + 1, 2, none⟩ = some (.string sb) := (cell_of_row w9 _ 2 _ _ _ I9.out.2.1).trans rfl
  have f0 : w9.cell? ⟨w.heap.size + 2, 0, none⟩ = some (.int .i64 kc) := (cell_of_row w9 _ 0 _ _ _ I9.out.2.2.1).trans rfl
  have f1 : w9.cell? ⟨w.heap.size + 2, 1, none⟩ = some (.int .i64 nc) := (cell_of_row w9 _ 1 _ _ _ I9.out.2.2.1).trans rfl
  have f2 : w9.cell? ⟨w.heap.size + 2, 2, none⟩ = some (.string sc) := (cell_of_row w9 _ 2 _ _ _ I9.out.2.2.1).trans rfl
  have E23 := eq_self r23
  have G23 := run_guard23 r23 r23
  go_wp2_with fail
  refine (C23.out _).mono ?_
  rintro e w10 ⟨rfl, hb10⟩
  have I10 := Lib.hid (I9.out.below hb10)
  clear hb10
  clear a0 a1 a2 d0 d1 d2 f0 f1 f2
  have a0 : w10.cell? ⟨w.heap.size, 0, none⟩ = some (.int .i64 ka) := (cell_of_row w10 _ 0 _ _ _ I10.out.1).trans rfl
  have a1 : w10.cell? ⟨w.heap.size, 1, none⟩ = some (.int .i64 na) := (cell_of_row w10 _ 1 _ _ _ I10.out.1).trans rfl
  have a2 : w10.cell? ⟨w.heap.size, 2, none⟩ = some (.string sa) := (cell_of_row w10 _ 2 _ _ _ I10.out.1).trans rfl
  have d0 : w10.cell? ⟨w.heap.size + 1, 0, none⟩ = some (.int .i64 kb) := (cell_of_row w10 _ 0 _ _ _ I10.out.2.1).trans rfl
  have d1 : w10.cell? ⟨w.heap.size + 1, 1, none⟩ = some (.int .i64 nb) := (cell_of_row w10 _ 1 _ _ _ I10.out.2.1).trans rfl
  have d2 : w10.cell? ⟨w.heap.size + 1, 2, none⟩ = some (.string sb) := (cell_of_row w10 _ 2 _ _ _ I10.out.2.1).trans rfl
  have f0 : w10.cell? ⟨w.heap.size + 2, 0, none⟩ = some (.int .i64 kc) := (cell_of_row w10 _ 0 _ _ _ I10.out.2.2.1).trans rfl
  have f1 : w10.cell? ⟨w.heap.size + 2, 1, none⟩ = some (.int .i64 nc) := (cell_of_row w10 _ 1 _ _ _ I10.out.2.2.1).trans rfl
  have f2 : w10.cell? ⟨w.heap.size + 2, 2, none⟩ = some (.string sc) := (cell_of_row w10 _ 2 _ _ _ I10.out.2.2.1).trans rfl
  go_wp2_with fail
  refine (D23.out 3 (w.heap.size + 1 + 1 + 1) _ (Nat.le_refl _) I10.out.2.2.2.1).mono ?_
  rintro e w11 ⟨rfl, hb11⟩
  have I11 := Lib.hid (I10.out.below hb11)
  clear hb11
  clear a0 a1 a2 d0 d1 d2 f0 f1 f2
  have a0 : w11.cell? ⟨w.heap.size, 0, none⟩ = some (.int .i64 ka) := (cell_of_row w11 _ 0 _ _ _ I11.out.1).trans rfl
  have a1 : w11.cell? ⟨w.heap.size, 1, none⟩ = some (.int .i64 na) := (cell_of_row w11 _ 1 _ _ _ I11.out.1).trans rfl
  have a2 : w11.cell? ⟨w.heap.size, 2, none⟩ = some (.string sa) := (cell_of_row w11 _ 2 _ _ _ I11.out.1).trans rfl
  have d0 : w11.cell? ⟨w.heap.size + 1, 0, none⟩ = some (.int .i64 kb) := (cell_of_row w11 _ 0 _ _ _ I11.out.2.1).trans rfl
  have d1 : w11.cell? ⟨w.heap.size + 1, 1, none⟩ = some (.int .i64 nb) := (cell_of_row w11 _ 1 _ _ _ I11.out.2.1).trans rfl
  have d2 : w11.cell? ⟨w.heap.size + 1, 2, none⟩ = some (.string sb) := (cell_of_row w11 _ 2 _ _ _ I11.out.2.1).trans rfl
  have f0 : w11.cell? ⟨w.heap.size + 2, 0, none⟩ = some (.int .i64 kc) := (cell_of_row w11 _ 0 _ _ _ I11.out.2.2.1).trans rfl
  have f1 : w11.cell? ⟨w.heap.size + 2, 1, none⟩ = some (.int .i64 nc) := (cell_of_row w11 _ 1 _ _ _ I11.out.2.2.1).trans rfl
  have f2 : w11.cell? ⟨w.heap.size + 2, 2, none⟩ = some (.string sc) := (cell_of_row w11 _ 2 _ _ _ I11.out.2.2.1).trans rfl
  go_wp2
  go_ret
  exact ⟨rfl, I11.out.2.2.2.2.2⟩
end YtabojeleomfgnaaGreatDoor
end Go.Proofs
