/- values: package value works. -/
import Derived.Test.YtabojeleomfgnaaGreatDoorQ1
namespace Go.Proofs
open Go.RowKit
namespace YtabojeleomfgnaaGreatDoor
set_option maxRecDepth 100000
theorem check5 (w : World) : Calls Tryz.prog 18 #[.int .i64 3, V5] w fun e w' => e = .returned (.int .i64 8) ∧ Below w.heap.size w w' := by
  have h := check_any 3 2 5 ⟨#[]⟩ (Nat.zero_le _) w
  rw [show checkN 3 2 5 ⟨#[]⟩ = 8 from by simp [checkN, kindB, formedB, ByteArray.toList_eq]] at h
  exact h
set_option maxHeartbeats 2000000 in
theorem values_true (w : World) (ho : Ops w) : Calls Tryz.prog 17 #[] w fun e w' => e = .returned (.bool true) ∧ Below w.heap.size w w' := by
  have O0 : Hid (Ops (w.alloc (.cells #[.int .i64 2, .int .i64 5, .string ⟨#[]⟩] 23))) := ho.below (by go_grown)
  clear ho
  go_enter Tryz.func17, Tryz.ntmps17
  go_wp2_with fail
  refine (exprRead_add _ O0.out).mono ?_
  rintro e w1 ⟨b, cap, rfl, ht1, hb1b, hb1⟩
  have O1 := Lib.hid (O0.out.below hb1)
  have T1 := Lib.hid ht1
  have L1 := Lib.hid (below_call (w := w) (by go_grown) hb1)
  have f1 : Hid (w1.heap[w.heap.size]? = some (.cells #[.int .i64 2, .int .i64 5, .string ⟨#[]⟩] 23 (0, 0))) := (hb1.block _ (by simp)).trans (heap_alloc_new w _)
  have z1 : w.heap.size < w1.heap.size := lt_of_block f1.out
  have v0 : w1.cell? ⟨w.heap.size, 0, none⟩ = some (.int .i64 2) := (cell_of_row w1 _ 0 _ _ _ f1.out).trans rfl
  have v1 : w1.cell? ⟨w.heap.size, 1, none⟩ = some (.int .i64 5) := (cell_of_row w1 _ 1 _ _ _ f1.out).trans rfl
  have v2 : w1.cell? ⟨w.heap.size, 2, none⟩ = some (.string ⟨#[]⟩) := (cell_of_row w1 _ 2 _ _ _ f1.out).trans rfl
  clear ht1 hb1b hb1 O0
  go_wp2_with fail
  have hl : Below w1.heap.size w1 (((w1.alloc (.cells (exprC 4 12 0 0 0 ⟨#[]⟩ ⟨#[]⟩ ⟨#[]⟩ (.slice (some ⟨b, 0, none⟩) 2 cap)) 70)).alloc (.cells #[.string ⟨#[]⟩, .string SA, .int .i64 2] 77)).alloc (.cells #[.int .i64 2, .int .i64 5, .string ⟨#[]⟩] 23)) := by go_grown
  have hcol : (((w1.alloc (.cells (exprC 4 12 0 0 0 ⟨#[]⟩ ⟨#[]⟩ ⟨#[]⟩ (.slice (some ⟨b, 0, none⟩) 2 cap)) 70)).alloc (.cells #[.string ⟨#[]⟩, .string SA, .int .i64 2] 77)).alloc (.cells #[.int .i64 2, .int .i64 5, .string ⟨#[]⟩] 23)).heap[w1.heap.size + 1]? = some (.cells #[.string ⟨#[]⟩, .string SA, .int .i64 2] 77 (0, 0)) := (heap_alloc_old _ _ (by simp)).trans (new_at _ _ _ (by simp))
  have hrow : (((w1.alloc (.cells (exprC 4 12 0 0 0 ⟨#[]⟩ ⟨#[]⟩ ⟨#[]⟩ (.slice (some ⟨b, 0, none⟩) 2 cap)) 70)).alloc (.cells #[.string ⟨#[]⟩, .string SA, .int .i64 2] 77)).alloc (.cells #[.int .i64 2, .int .i64 5, .string ⟨#[]⟩] 23)).heap[w1.heap.size + 1 + 1]? = some (.cells #[.int .i64 2, .int .i64 5, .string ⟨#[]⟩] 23 (0, 0)) := new_at _ _ _ (by simp)
  have C1 : Hid (Col (w1.heap.size + 1) (((w1.alloc (.cells (exprC 4 12 0 0 0 ⟨#[]⟩ ⟨#[]⟩ ⟨#[]⟩ (.slice (some ⟨b, 0, none⟩) 2 cap)) 70)).alloc (.cells #[.string ⟨#[]⟩, .string SA, .int .i64 2] 77)).alloc (.cells #[.int .i64 2, .int .i64 5, .string ⟨#[]⟩] 23))) := ⟨(cell_of_row _ _ 0 _ _ _ hcol).trans rfl, (cell_of_row _ _ 1 _ _ _ hcol).trans rfl, (cell_of_row _ _ 2 _ _ _ hcol).trans rfl, lt_of_block hcol⟩
  have R1 : Hid (Row5 (w1.heap.size + 1 + 1) (((w1.alloc (.cells (exprC 4 12 0 0 0 ⟨#[]⟩ ⟨#[]⟩ ⟨#[]⟩ (.slice (some ⟨b, 0, none⟩) 2 cap)) 70)).alloc (.cells #[.string ⟨#[]⟩, .string SA, .int .i64 2] 77)).alloc (.cells #[.int .i64 2, .int .i64 5, .string ⟨#[]⟩] 23))) := ⟨(cell_of_row _ _ 0 _ _ _ hrow).trans rfl, (cell_of_row _ _ 1 _ _ _ hrow).trans rfl, (cell_of_row _ _ 2 _ _ _ hrow).trans rfl, lt_of_block hrow⟩
  have T2 := Lib.hid (T1.out.below hl)
  have O2 := Lib.hid (O1.out.below hl)
  have L2 := Lib.hid (below_call L1.out hl)
  have f2 := Lib.hid ((hl.block _ z1).trans f1.out)
  clear hl hcol hrow v0 v1 v2
  generalize (((w1.alloc (.cells (exprC 4 12 0 0 0 ⟨#[]⟩ ⟨#[]⟩ ⟨#[]⟩ (.slice (some ⟨b, 0, none⟩) 2 cap)) 70)).alloc (.cells #[.string ⟨#[]⟩, .string SA, .int .i64 2] 77)).alloc (.cells #[.int .i64 2, .int .i64 5, .string ⟨#[]⟩] 23)) = wa at C1 R1 T2 O2 L2 f2 ⊢
  refine (eval_add b cap _ _ _ C1.out R1.out T2.out O2.out).mono ?_
  rintro e w2 ⟨rfl, hb2⟩
  have L3 := Lib.hid (below_call L2.out hb2)
  have f3 := Lib.hid ((hb2.block _ (lt_of_block f2.out)).trans f2.out)
  have z3 : w.heap.size < w2.heap.size := lt_of_block f3.out
  clear hb2 C1 R1 T2 O2 L2 f2 f1 z1 T1 O1 L1
  have v0 : w2.cell? ⟨w.heap.size, 0, none⟩ = some (.int .i64 2) := (cell_of_row w2 _ 0 _ _ _ f3.out).trans rfl
  have v1 : w2.cell? ⟨w.heap.size, 1, none⟩ = some (.int .i64 5) := (cell_of_row w2 _ 1 _ _ _ f3.out).trans rfl
  have v2 : w2.cell? ⟨w.heap.size, 2, none⟩ = some (.string ⟨#[]⟩) := (cell_of_row w2 _ 2 _ _ _ f3.out).trans rfl
  go_wp2_with fail
  refine (show5 _).mono ?_
  rintro e w3 ⟨rfl, hb3⟩
  have L4 := Lib.hid (below_call (w := w) (L3.out.alloc (Nat.le_of_lt z3) _) hb3)
  have f4 := Lib.hid ((hb3.block _ (by simp only [World.size_alloc]; omega)).trans ((heap_alloc_old _ _ z3).trans f3.out))
  clear hb3 v0 v1 v2
  have v0 : w3.cell? ⟨w.heap.size, 0, none⟩ = some (.int .i64 2) := (cell_of_row w3 _ 0 _ _ _ f4.out).trans rfl
  have v1 : w3.cell? ⟨w.heap.size, 1, none⟩ = some (.int .i64 5) := (cell_of_row w3 _ 1 _ _ _ f4.out).trans rfl
  have v2 : w3.cell? ⟨w.heap.size, 2, none⟩ = some (.string ⟨#[]⟩) := (cell_of_row w3 _ 2 _ _ _ f4.out).trans rfl
  go_wp2_with fail
  refine (check5 _).mono ?_
  rintro e w4 ⟨rfl, hb4⟩
  have L5 := Lib.hid (below_call L4.out hb4)
  clear hb4 v0 v1 v2
  go_wp2_with fail
  go_ret
  exact ⟨rfl, L5.out⟩
end YtabojeleomfgnaaGreatDoor
end Go.Proofs
