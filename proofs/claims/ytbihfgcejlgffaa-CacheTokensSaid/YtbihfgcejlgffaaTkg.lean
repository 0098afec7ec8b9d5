/- The run that shows that package cache works: it keeps an object, and forgets it. -/
import Derived.Test.YtbihfgcejlgffaaTkf
namespace Go.Proofs
open Go.RowKit
namespace Ytbihfgcejlgffaa
set_option maxRecDepth 100000
theorem equalV_nil (w : World) : Calls Try.prog 51 #[.slice none 0 0, .slice none 0 0] w fun e w' => e = .returned (.bool true) ∧ w' = w := by
  go_enter Try.func51, Try.ntmps51
  go_wp2
  refine wp_loop_rounds 1 ?_
  rw [rounds_succ]
  go_wp2
  go_ret
  exact ⟨rfl, rfl⟩
theorem eqV (w : World) : (binOp BinOp.eql 56 (.agg #[.int .i64 0, .int .i64 0, .string S0]) (.agg #[.int .i64 0, .int .i64 0, .string S0])).run Try.prog w = .ok (.bool true) w := by kernel_rfl
theorem eqG (u v : Operand) (w : World) : (eqGuard BinOp.eql 56 u v (.agg #[.int .i64 0, .int .i64 0, .string S0]) (.agg #[.int .i64 0, .int .i64 0, .string S0])).run Try.prog w = .ok () w := by kernel_rfl
set_option maxHeartbeats 2000000 in
theorem sameObject_t (w : World) : Calls Try.prog 30 #[.agg OC, .agg OC] w fun e w' => e = .returned (.bool true) ∧ Below w.heap.size w w' := by
  have hq := eqV
  have hg := eqG
  go_enter Try.func30, Try.ntmps30
  go_wp2_with fail
  refine (equalV_nil _).mono ?_
  rintro e wx ⟨rfl, hwx⟩
  rw [hwx]
  clear hwx wx
  go_wp2_with fail
  refine (Try.slices_Equal_int_empty none none 0 0 0 _ (by omega)).mono ?_
  rintro e wx ⟨rfl, hwx⟩
  rw [hwx]
  clear hwx wx
  go_wp2_with fail
  go_ret
  exact ⟨rfl, by go_grown⟩
theorem oc9 {w : World} {o : Nat} (k : w.heap[o]? = some (.cells OC 59 (0, 0))) :
    w.cell? ⟨o, 0, none⟩ = some (.string SA) ∧ w.cell? ⟨o, 1, none⟩ = some (.int .i64 0) ∧ w.cell? ⟨o, 2, none⟩ = some (.int .i64 1) ∧ w.cell? ⟨o, 3, none⟩ = some (.int .i64 0) ∧ w.cell? ⟨o, 4, none⟩ = some (.int .i64 0) ∧ w.cell? ⟨o, 5, none⟩ = some (.int .i64 0) ∧ w.cell? ⟨o, 6, none⟩ = some (.string S0) ∧ w.cell? ⟨o, 7, none⟩ = some (.slice none 0 0) ∧ w.cell? ⟨o, 8, none⟩ = some (.slice none 0 0) :=
  ⟨(cell_of_row w _ 0 _ _ _ k).trans rfl, (cell_of_row w _ 1 _ _ _ k).trans rfl, (cell_of_row w _ 2 _ _ _ k).trans rfl, (cell_of_row w _ 3 _ _ _ k).trans rfl, (cell_of_row w _ 4 _ _ _ k).trans rfl, (cell_of_row w _ 5 _ _ _ k).trans rfl, (cell_of_row w _ 6 _ _ _ k).trans rfl, (cell_of_row w _ 7 _ _ _ k).trans rfl, (cell_of_row w _ 8 _ _ _ k).trans rfl⟩
set_option maxHeartbeats 4000000 in
theorem caches_true (w : World) : Calls Try.prog 13 #[] w fun e w' => e = .returned (.bool true) ∧ Below w.heap.size w w' := by
  have BA : Below w.heap.size w (((w.alloc (.map #[] 0)).alloc (.cells (CA 2 0 w.heap.size) 85)).alloc (.cells OC 59)) := by go_grown
  have B1 : Hid ((((w.alloc (.map #[] 0)).alloc (.cells (CA 2 0 w.heap.size) 85)).alloc (.cells OC 59)).heap[w.heap.size + 1]? = some (.cells (CA 2 0 w.heap.size) 85 (0, 0))) := Lib.hid (al _ (new_at _ _ _ (by simp)))
  have M1 : Hid ((((w.alloc (.map #[] 0)).alloc (.cells (CA 2 0 w.heap.size) 85)).alloc (.cells OC 59)).heap[w.heap.size]? = some (.map #[] 0)) := Lib.hid (al _ (al _ (heap_alloc_new w _)))
  have O1 : Hid ((((w.alloc (.map #[] 0)).alloc (.cells (CA 2 0 w.heap.size) 85)).alloc (.cells OC 59)).heap[w.heap.size + 1 + 1]? = some (.cells OC 59 (0, 0))) := Lib.hid (new_at _ _ _ (by simp))
  have K1 := Lib.hid BA
  have S1 : Hid ((((w.alloc (.map #[] 0)).alloc (.cells (CA 2 0 w.heap.size) 85)).alloc (.cells OC 59)).heap.size = w.heap.size + 1 + 1 + 1) := Lib.hid (by simp)
  clear BA
  go_enter Try.func13, Try.ntmps13
  go_wp2_with fail
  refine (newCache_t _).mono ?_
  rintro e wx ⟨rfl, hwx⟩
  rw [hwx]
  clear hwx wx
  go_wp2_with fail
  generalize ((w.alloc (.map #[] 0)).alloc (.cells (CA 2 0 w.heap.size) 85)).alloc (.cells OC 59) = w1 at B1 M1 O1 K1 S1 ⊢
  refine (Keep_t (w.heap.size + 1) w.heap.size (by omega) _ B1.out M1.out).mono ?_
  rintro e w2 ⟨eb, g, rfl, hb2, hm2, he2, hg2, l1, l2, hk2⟩
  have B2 := Lib.hid hb2
  have M2 := Lib.hid hm2
  have E2 := Lib.hid he2
  have G2 := Lib.hid hg2
  have O2 : Hid (w2.heap[w.heap.size + 1 + 1]? = some (.cells OC 59 (0, 0))) := Lib.hid ((hk2.block _ (lt_of_block O1.out) (by simp; omega)).trans O1.out)
  have K2 : Hid (Below w.heap.size w w2) := Lib.hid (KX.below K1.out hk2 (by simp))
  have L2 := Lib.hid (show w.heap.size + 1 + 1 < eb ∧ w.heap.size + 1 + 1 < g from ⟨by have := S1.out; omega, by have := S1.out; omega⟩)
  have EG := Lib.hid (show eb ≠ g from fun x => by subst x; have h := hg2.symm.trans he2; cases h)
  clear hb2 hm2 he2 hg2 l1 l2 hk2 B1 M1 O1 K1 S1
  go_wp2_with fail
  refine (hear_no (w.heap.size + 1) w.heap.size 1 _ B2.out).mono ?_
  rintro e w3 ⟨rfl, hb3⟩
  have B3 := Lib.hid ((hb3.block _ (lt_of_block B2.out)).trans B2.out)
  have M3 := Lib.hid ((hb3.block _ (lt_of_block M2.out)).trans M2.out)
  have E3 := Lib.hid ((hb3.block _ (lt_of_block E2.out)).trans E2.out)
  have G3 := Lib.hid ((hb3.block _ (lt_of_block G2.out)).trans G2.out)
  have O3 := Lib.hid ((hb3.block _ (lt_of_block O2.out)).trans O2.out)
  have K3 : Hid (Below w.heap.size w w3) := Lib.hid (below_call K2.out hb3)
  clear hb3 B2 M2 E2 G2 O2 K2
  go_wp2_with fail
  refine (object_yes (w.heap.size + 1) w.heap.size eb g 1 (by omega) (by omega) (by have := L2.out; omega) _ B3.out M3.out E3.out G3.out (by have := L2.out; omega) EG.out).mono ?_
  rintro e w4 ⟨rfl, hb4, he4, hk4⟩
  have B4 := Lib.hid hb4
  have E4 := Lib.hid he4
  have M4 : Hid (w4.heap[w.heap.size]? = some (.map #[{ key := NK, val := .pointer (some ⟨eb, 0, none⟩), born := 0 }] 1)) := Lib.hid ((hk4.block _ (lt_of_block M3.out) (by have := L2.out; simp; omega)).trans M3.out)
  have O4 : Hid (w4.heap[w.heap.size + 1 + 1]? = some (.cells OC 59 (0, 0))) := Lib.hid ((hk4.block _ (lt_of_block O3.out) (by have := L2.out; simp; omega)).trans O3.out)
  have K4 : Hid (Below w.heap.size w w4) := Lib.hid (KX.below K3.out hk4 (by have := L2.out; simp; omega))
  clear hb4 he4 hk4 B3 M3 E3 G3 O3 K3
  have P5 : Hid (((w4.alloc (.cells OC 59)).alloc (.cells RC 69)).heap[w4.heap.size]? = some (.cells OC 59 (0, 0))) := Lib.hid (al _ (heap_alloc_new w4 _))
  have R5 : Hid (((w4.alloc (.cells OC 59)).alloc (.cells RC 69)).heap[w4.heap.size + 1]? = some (.cells RC 69 (0, 0))) := Lib.hid (new_at _ _ _ (by simp))
  have B5 := Lib.hid (al (.cells RC 69) (al (.cells OC 59) B4.out))
  have M5 := Lib.hid (al (.cells RC 69) (al (.cells OC 59) M4.out))
  have E5 := Lib.hid (al (.cells RC 69) (al (.cells OC 59) E4.out))
  have O5 := Lib.hid (al (.cells RC 69) (al (.cells OC 59) O4.out))
  have K5 : Hid (Below w.heap.size w ((w4.alloc (.cells OC 59)).alloc (.cells RC 69))) := Lib.hid ((K4.out.alloc K4.out.size _).alloc (by simp; have := K4.out.size; omega) _)
  have L5 := Lib.hid (show w.heap.size + 1 + 1 < w4.heap.size from lt_of_block O4.out)
  clear B4 M4 E4 O4 K4
  go_wp2_with fail
  generalize (w4.alloc (.cells OC 59)).alloc (.cells RC 69) = w5 at P5 R5 B5 M5 E5 O5 K5 ⊢
  refine (hear_yes (w.heap.size + 1) w.heap.size eb g (w4.heap.size + 1) 2 (by omega) _ B5.out M5.out E5.out R5.out).mono ?_
  rintro e w6 ⟨rfl, hb6, hm6, hk6⟩
  have B6 := Lib.hid hb6
  have M6 := Lib.hid hm6
  have P6 : Hid (w6.heap[w4.heap.size]? = some (.cells OC 59 (0, 0))) := Lib.hid ((hk6.block _ (lt_of_block P5.out) (by have := L5.out; simp; omega)).trans P5.out)
  have O6 : Hid (w6.heap[w.heap.size + 1 + 1]? = some (.cells OC 59 (0, 0))) := Lib.hid ((hk6.block _ (lt_of_block O5.out) (by simp; omega)).trans O5.out)
  have K6 : Hid (Below w.heap.size w w6) := Lib.hid (KX.below K5.out hk6 (by simp))
  clear hb6 hm6 hk6 P5 R5 B5 M5 E5 O5 K5
  go_wp2_with fail
  refine (object_no (w.heap.size + 1) w.heap.size 3 2 1 _ B6.out M6.out).mono ?_
  rintro e w7 ⟨rfl, hb7⟩
  have P7 := (hb7.block _ (lt_of_block P6.out)).trans P6.out
  have O7 := (hb7.block _ (lt_of_block O6.out)).trans O6.out
  have K8 : Hid (Below w.heap.size w (w7.alloc (.cells OZ 59))) := Lib.hid ((below_call K6.out hb7).alloc (below_call K6.out hb7).size _)
  obtain ⟨p0, p1, p2, p3, p4, p5, p6, p7, p8⟩ := oc9 P7
  obtain ⟨q0, q1, q2, q3, q4, q5, q6, q7, q8⟩ := oc9 O7
  have z1 : w4.heap.size < w7.heap.size := lt_of_block P7
  have z2 : w.heap.size + 1 + 1 < w7.heap.size := lt_of_block O7
  clear hb7 B6 M6 P6 O6 K6 P7 O7
  go_wp2_with fail
  refine (sameObject_t _).mono ?_
  rintro e w8 ⟨rfl, hb8⟩
  have K9 : Hid (Below w.heap.size w w8) := Lib.hid (below_call K8.out hb8)
  clear hb8 p0 p1 p2 p3 p4 p5 p6 p7 p8 q0 q1 q2 q3 q4 q5 q6 q7 q8 z1 z2
  go_wp2_with fail
  go_ret
  exact ⟨rfl, K9.out⟩
end Ytbihfgcejlgffaa
end Go.Proofs
