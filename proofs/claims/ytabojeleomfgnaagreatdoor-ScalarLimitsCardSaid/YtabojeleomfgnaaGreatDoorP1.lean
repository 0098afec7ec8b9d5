/- The value of add(:a,5). -/
import Derived.Test.YtabojeleomfgnaaGreatDoorL2
namespace Go.Proofs
open Go.RowKit
namespace YtabojeleomfgnaaGreatDoor
set_option maxRecDepth 100000
theorem make2 (w : World) : (Instr.makeSlice 28 (.int .i64 2) (.int .i64 2)).run Tryz.prog w = .ok (.slice (some ⟨w.heap.size, 0, none⟩) 2 2) (w.alloc (.cells #[.int .i64 0, .int .i64 0, .string ⟨#[]⟩, .int .i64 0, .int .i64 0, .string ⟨#[]⟩] 23)) := by kernel_rfl
structure KV (fc ec A : Array Value) (w0 w : World) : Prop where
  low : Below w0.heap.size w0 w
  fc : w.heap[w0.heap.size]? = some (.cells fc 138 (0, 0))
  ex : w.heap[w0.heap.size + 1]? = some (.cells ec 70 (0, 0))
  res : w.heap[w0.heap.size + 1 + 1]? = some (.cells #[.int .i64 0, .int .i64 0, .string ⟨#[]⟩] 23 (0, 0))
  arr : w.heap[w0.heap.size + 1 + 1 + 1]? = some (.cells A 23 (0, 0))
theorem KV.below {fc ec A : Array Value} {w0 w w' : World} (h : KV fc ec A w0 w) (hb : Below w.heap.size w w') : KV fc ec A w0 w' :=
  ⟨below_call h.low hb, (hb.block _ (lt_of_block h.fc)).trans h.fc, (hb.block _ (lt_of_block h.ex)).trans h.ex, (hb.block _ (lt_of_block h.res)).trans h.res, (hb.block _ (lt_of_block h.arr)).trans h.arr⟩
theorem KV.alloc {fc ec A : Array Value} {w0 w : World} (h : KV fc ec A w0 w) (o : Obj) : KV fc ec A w0 (w.alloc o) := h.below ((Below.refl _ _).alloc (Nat.le_refl _) o)
theorem KV.set {fc ec A : Array Value} {w0 w : World} (h : KV fc ec A w0 w) (o : Nat) (v : Value) : KV fc ec (A.setIfInBounds o v) w0 (w.setCell ⟨w0.heap.size + 1 + 1 + 1, o, none⟩ v) :=
  ⟨h.low.setCell (by simp only; omega) v, (heap_setCell_other w _ _ v (by simp only; omega)).trans h.fc, (heap_setCell_other w _ _ v (by simp only; omega)).trans h.ex, (heap_setCell_other w _ _ v (by simp only; omega)).trans h.res, heap_setCell_same w _ o _ 23 v h.arr⟩
set_option maxHeartbeats 2000000 in
theorem value_add (b cap bc bv : Nat) (pa : Option Addr) (w : World) (hc : Col bc w) (hr : Row5 bv w) (ht : Two b w) : Calls Tryz.prog 155 #[factsV bc bv pa, EADD b cap] w fun e w' => e = .returned V10 ∧ Below w.heap.size w w' := by
  have H := fun w' => fun hb : Below w.heap.size w w' => Lib.hid (And.intro (hc.below hb) (And.intro (hr.below hb) (ht.below hb)))
  clear hc hr ht
  have hmk := make2
  go_enter Tryz.func155, Tryz.ntmps155
  go_wp2_with fail
  have K0 : Hid (KV #[.slice (some ⟨bc, 0, none⟩) 1 1, .slice pa 0 0, .slice (some ⟨bv, 0, none⟩) 1 1, nilS] (exprC 4 12 0 0 0 ⟨#[]⟩ ⟨#[]⟩ ⟨#[]⟩ (.slice (some ⟨b, 0, none⟩) 2 cap)) #[.int .i64 0, .int .i64 0, .string ⟨#[]⟩, .int .i64 0, .int .i64 0, .string ⟨#[]⟩] w ((((w.alloc (.cells #[.slice (some ⟨bc, 0, none⟩) 1 1, .slice pa 0 0, .slice (some ⟨bv, 0, none⟩) 1 1, nilS] 138)).alloc (.cells (exprC 4 12 0 0 0 ⟨#[]⟩ ⟨#[]⟩ ⟨#[]⟩ (.slice (some ⟨b, 0, none⟩) 2 cap)) 70)).alloc (.cells #[.int .i64 0, .int .i64 0, .string ⟨#[]⟩] 23)).alloc (.cells #[.int .i64 0, .int .i64 0, .string ⟨#[]⟩, .int .i64 0, .int .i64 0, .string ⟨#[]⟩] 23))) :=
    ⟨by go_grown, (heap_alloc_old _ _ (by simp only [World.size_alloc]; omega)).trans ((heap_alloc_old _ _ (by simp only [World.size_alloc]; omega)).trans ((heap_alloc_old _ _ (by simp)).trans (heap_alloc_new w _))),
     (heap_alloc_old _ _ (by simp only [World.size_alloc]; omega)).trans ((heap_alloc_old _ _ (by simp)).trans (new_at _ _ _ (by simp))), (heap_alloc_old _ _ (by simp)).trans (new_at _ _ _ (by simp)), new_at _ _ _ (by simp)⟩
  generalize ((((w.alloc (.cells #[.slice (some ⟨bc, 0, none⟩) 1 1, .slice pa 0 0, .slice (some ⟨bv, 0, none⟩) 1 1, nilS] 138)).alloc (.cells (exprC 4 12 0 0 0 ⟨#[]⟩ ⟨#[]⟩ ⟨#[]⟩ (.slice (some ⟨b, 0, none⟩) 2 cap)) 70)).alloc (.cells #[.int .i64 0, .int .i64 0, .string ⟨#[]⟩] 23)).alloc (.cells #[.int .i64 0, .int .i64 0, .string ⟨#[]⟩, .int .i64 0, .int .i64 0, .string ⟨#[]⟩] 23)) = wa at K0 ⊢
  clear hmk
  have s0 : wa.cell? ⟨w.heap.size, 0, none⟩ = some (.slice (some ⟨bc, 0, none⟩) 1 1) := (cell_of_row wa _ 0 _ _ _ K0.out.fc).trans rfl
  have s1 : wa.cell? ⟨w.heap.size, 1, none⟩ = some (.slice pa 0 0) := (cell_of_row wa _ 1 _ _ _ K0.out.fc).trans rfl
  have s2 : wa.cell? ⟨w.heap.size, 2, none⟩ = some (.slice (some ⟨bv, 0, none⟩) 1 1) := (cell_of_row wa _ 2 _ _ _ K0.out.fc).trans rfl
  have s3 : wa.cell? ⟨w.heap.size, 3, none⟩ = some nilS := (cell_of_row wa _ 3 _ _ _ K0.out.fc).trans rfl
  have r0 : w.heap.size < wa.heap.size := lt_of_block K0.out.fc
  refine wp_loop_rounds 3 ?_
  rw [rounds_succ]
  have F0 := H _ K0.out.low
  go_wp2_with (refine load_mid ?_ (.tmp 44) ?_ b 0 CA ?_ ?_ ?_ ?_; exact rfl; exact rfl; exact rfl; exact F0.out.2.2.1; exact rfl)
  refine (value_A bc bv pa _ (F0.out.1.below (by go_grown)) (F0.out.2.1.below (by go_grown))).mono ?_
  rintro e w1 ⟨rfl, hb1⟩
  have K1 := Lib.hid ((K0.out.alloc _).below hb1)
  clear hb1 s0 s1 s2 s3 F0 K0
  have a0 : w1.cell? ⟨w.heap.size + 1 + 1 + 1, 0, none⟩ = some (.int .i64 0) := (cell_of_row w1 _ 0 _ _ _ K1.out.arr).trans rfl
  have z0 : w1.frozen? ⟨w.heap.size + 1 + 1 + 1, 0, none⟩ = false := frozen_of_row w1 _ 0 _ _ K1.out.arr
  have a1 : w1.cell? ⟨w.heap.size + 1 + 1 + 1, 1, none⟩ = some (.int .i64 0) := (cell_of_row w1 _ 1 _ _ _ K1.out.arr).trans rfl
  have z1 : w1.frozen? ⟨w.heap.size + 1 + 1 + 1, 1, none⟩ = false := frozen_of_row w1 _ 1 _ _ K1.out.arr
  have a2 : w1.cell? ⟨w.heap.size + 1 + 1 + 1, 2, none⟩ = some (.string ⟨#[]⟩) := (cell_of_row w1 _ 2 _ _ _ K1.out.arr).trans rfl
  have z2 : w1.frozen? ⟨w.heap.size + 1 + 1 + 1, 2, none⟩ = false := frozen_of_row w1 _ 2 _ _ K1.out.arr
  go_wp2_with fail
  have K2 : Hid (KV #[.slice (some ⟨bc, 0, none⟩) 1 1, .slice pa 0 0, .slice (some ⟨bv, 0, none⟩) 1 1, nilS] (exprC 4 12 0 0 0 ⟨#[]⟩ ⟨#[]⟩ ⟨#[]⟩ (.slice (some ⟨b, 0, none⟩) 2 cap)) #[.int .i64 2, .int .i64 5, .string ⟨#[]⟩, .int .i64 0, .int .i64 0, .string ⟨#[]⟩] w (((w1.setCell ⟨w.heap.size + 1 + 1 + 1, 0, none⟩ (.int .i64 2)).setCell ⟨w.heap.size + 1 + 1 + 1, 1, none⟩ (.int .i64 5)).setCell ⟨w.heap.size + 1 + 1 + 1, 2, none⟩ (.string ⟨#[]⟩))) := ((K1.out.set 0 (.int .i64 2)).set 1 (.int .i64 5)).set 2 (.string ⟨#[]⟩)
  generalize (((w1.setCell ⟨w.heap.size + 1 + 1 + 1, 0, none⟩ (.int .i64 2)).setCell ⟨w.heap.size + 1 + 1 + 1, 1, none⟩ (.int .i64 5)).setCell ⟨w.heap.size + 1 + 1 + 1, 2, none⟩ (.string ⟨#[]⟩)) = wb at K2 ⊢
  clear a0 a1 a2 z0 z1 z2 K1
  have s0 : wb.cell? ⟨w.heap.size, 0, none⟩ = some (.slice (some ⟨bc, 0, none⟩) 1 1) := (cell_of_row wb _ 0 _ _ _ K2.out.fc).trans rfl
  have s1 : wb.cell? ⟨w.heap.size, 1, none⟩ = some (.slice pa 0 0) := (cell_of_row wb _ 1 _ _ _ K2.out.fc).trans rfl
  have s2 : wb.cell? ⟨w.heap.size, 2, none⟩ = some (.slice (some ⟨bv, 0, none⟩) 1 1) := (cell_of_row wb _ 2 _ _ _ K2.out.fc).trans rfl
  have s3 : wb.cell? ⟨w.heap.size, 3, none⟩ = some nilS := (cell_of_row wb _ 3 _ _ _ K2.out.fc).trans rfl
  have r2 : w.heap.size < wb.heap.size := lt_of_block K2.out.fc
  rw [rounds_succ]
  have F2 := H _ K2.out.low
  go_wp2_with (refine load_mid ?_ (.tmp 44) ?_ b 13 C5 ?_ ?_ ?_ ?_; exact rfl; exact rfl; exact rfl; exact F2.out.2.2.2.1; exact rfl)
  refine (value_5 bc bv pa _).mono ?_
  rintro e w2 ⟨rfl, hb2⟩
  have K3 := Lib.hid ((K2.out.alloc _).below hb2)
  clear hb2 s0 s1 s2 s3 F2 K2
  have a0 : w2.cell? ⟨w.heap.size + 1 + 1 + 1, 3, none⟩ = some (.int .i64 0) := (cell_of_row w2 _ 3 _ _ _ K3.out.arr).trans rfl
  have z0 : w2.frozen? ⟨w.heap.size + 1 + 1 + 1, 3, none⟩ = false := frozen_of_row w2 _ 3 _ _ K3.out.arr
  have a1 : w2.cell? ⟨w.heap.size + 1 + 1 + 1, 4, none⟩ = some (.int .i64 0) := (cell_of_row w2 _ 4 _ _ _ K3.out.arr).trans rfl
  have z1 : w2.frozen? ⟨w.heap.size + 1 + 1 + 1, 4, none⟩ = false := frozen_of_row w2 _ 4 _ _ K3.out.arr
  have a2 : w2.cell? ⟨w.heap.size + 1 + 1 + 1, 5, none⟩ = some (.string ⟨#[]⟩) := (cell_of_row w2 _ 5 _ _ _ K3.out.arr).trans rfl
  have z2 : w2.frozen? ⟨w.heap.size + 1 + 1 + 1, 5, none⟩ = false := frozen_of_row w2 _ 5 _ _ K3.out.arr
  go_wp2_with fail
  have K4 : Hid (KV #[.slice (some ⟨bc, 0, none⟩) 1 1, .slice pa 0 0, .slice (some ⟨bv, 0, none⟩) 1 1, nilS] (exprC 4 12 0 0 0 ⟨#[]⟩ ⟨#[]⟩ ⟨#[]⟩ (.slice (some ⟨b, 0, none⟩) 2 cap)) #[.int .i64 2, .int .i64 5, .string ⟨#[]⟩, .int .i64 2, .int .i64 5, .string ⟨#[]⟩] w (((w2.setCell ⟨w.heap.size + 1 + 1 + 1, 3, none⟩ (.int .i64 2)).setCell ⟨w.heap.size + 1 + 1 + 1, 4, none⟩ (.int .i64 5)).setCell ⟨w.heap.size + 1 + 1 + 1, 5, none⟩ (.string ⟨#[]⟩))) := ((K3.out.set 3 (.int .i64 2)).set 4 (.int .i64 5)).set 5 (.string ⟨#[]⟩)
  generalize (((w2.setCell ⟨w.heap.size + 1 + 1 + 1, 3, none⟩ (.int .i64 2)).setCell ⟨w.heap.size + 1 + 1 + 1, 4, none⟩ (.int .i64 5)).setCell ⟨w.heap.size + 1 + 1 + 1, 5, none⟩ (.string ⟨#[]⟩)) = wc at K4 ⊢
  clear a0 a1 a2 z0 z1 z2 K3
  have x0 : wc.cell? ⟨w.heap.size + 1, 0, none⟩ = some (.int .i64 4) := (cell_of_row wc _ 0 _ _ _ K4.out.ex).trans rfl
  have x1 : wc.cell? ⟨w.heap.size + 1, 1, none⟩ = some (.int .i64 12) := (cell_of_row wc _ 1 _ _ _ K4.out.ex).trans rfl
  have x2 : wc.cell? ⟨w.heap.size + 1, 2, none⟩ = some (.int .i64 0) := (cell_of_row wc _ 2 _ _ _ K4.out.ex).trans rfl
  rw [rounds_succ]
  go_wp2_with fail
  have Q4 : Fives (w.heap.size + 1 + 1 + 1) wc := ⟨(cell_of_row wc _ 0 _ _ _ K4.out.arr).trans rfl, (cell_of_row wc _ 1 _ _ _ K4.out.arr).trans rfl, (cell_of_row wc _ 2 _ _ _ K4.out.arr).trans rfl, (cell_of_row wc _ 3 _ _ _ K4.out.arr).trans rfl, (cell_of_row wc _ 4 _ _ _ K4.out.arr).trans rfl, (cell_of_row wc _ 5 _ _ _ K4.out.arr).trans rfl, lt_of_block K4.out.arr⟩
  refine (operate_add _ 2 _ Q4).mono ?_
  rintro e w3 ⟨rfl, hb3⟩
  have K5 := Lib.hid (K4.out.below hb3)
  clear hb3 x0 x1 x2 Q4 K4
  go_wp2_with (refine wpList_store_row ?_ 23 (.tmp 4) (.tmp 62) ?_ (w.heap.size + 1 + 1) #[.int .i64 2, .int .i64 10, .string ⟨#[]⟩] ?_ ?_ 23 #[.int .i64 0, .int .i64 0, .string ⟨#[]⟩] ?_ ?_ ?_ ?_ ?_; exact rfl; exact rfl; exact rfl; exact rfl; exact K5.out.res; exact size23; exact rfl; simp [Value.oneCell'])
  have hP := puts_setRow (cells := #[.int .i64 2, .int .i64 10, .string ⟨#[]⟩]) K5.out.res
  generalize World.setRow _ (w.heap.size + 1 + 1) #[.int .i64 2, .int .i64 10, .string ⟨#[]⟩] = w5 at hP ⊢
  have low : Below w.heap.size w w5 := hP.below K5.out.low (by omega)
  refine bodyPost_ret (results_cell_row rfl _ _ (w.heap.size + 1 + 1) 23 #[.int .i64 2, .int .i64 10, .string ⟨#[]⟩] (0, 0) _ ?_ hP.at' Tryz.underlying23 rfl size23) rfl ?_
  · rfl
  · exact ⟨rfl, low⟩
end YtabojeleomfgnaaGreatDoor
end Go.Proofs
