/- Compare of two values: the program's and the reference's. -/
import Derived.Test.YtabojeleomfgnaaGreatDoorM1
namespace Go.Proofs
open Go.RowKit
namespace YtabojeleomfgnaaGreatDoor
set_option maxRecDepth 100000
theorem _root_.Go.Calls.below {P : Program} {f : FuncId} {args : Array Value} {w : World} {e0 : Ending} (h : Calls P f args w fun e w' => e = e0 ∧ w' = w) : Calls P f args w fun e w' => e = e0 ∧ Below w.heap.size w w' := h.mono fun _ _ ⟨h1, h2⟩ => ⟨h1, by rw [h2]; exact Below.refl _ _⟩
theorem In2.intro {ka na kb nb : Int} {sa sb : ByteArray} {w0 w : World} (h1 : w.heap[w0.heap.size]? = some (.cells #[.int .i64 ka, .int .i64 na, .string sa] 23 (0, 0))) (h2 : w.heap[w0.heap.size + 1]? = some (.cells #[.int .i64 kb, .int .i64 nb, .string sb] 23 (0, 0))) (h3 : Below w0.heap.size w0 w) : In2 ka na kb nb sa sb w0 w := ⟨h1, h2, h3⟩
/-- the two stores behind 'a, b = clean(a), clean(b)' -/
theorem tail2 {ops : Array Oper} {o p : Oper} {x y x' y' : Operand} {a : Act} {Q : Exit → Act → World → Prop} {w0 w1 : World} {ka na kb nb ka' na' kb' nb' : Int} {sa sb sa' sb' : ByteArray}
    (ho : o.op = .store 23 x y) (hg : o.guard = none) (hd : o.dst = none) (hp : p.op = .store 23 x' y') (hgp : p.guard = none) (hdp : p.dst = none)
    (hx : a.eval x = .pointer (some ⟨w0.heap.size, 0, none⟩)) (hy : a.eval y = val ka' na' sa') (hx' : a.eval x' = .pointer (some ⟨w0.heap.size + 1, 0, none⟩)) (hy' : a.eval y' = val kb' nb' sb')
    (hI : In2 ka na kb nb sa sb w0 w1) (h : ∀ w2, In2 ka' na' kb' nb' sa' sb' w0 w2 → Q .normal a w2) : wpList Tryz.prog ops Q [o, p] a w1 := by
  have put : ∀ v, a.put none v = a := fun _ => rfl
  refine wpList_store_row hg 23 x y ho w0.heap.size #[.int .i64 ka', .int .i64 na', .string sa'] hx hy 23 _ hI.1 size23 rfl (by simp [Value.oneCell']) ?_
  have hP := puts_setRow (cells := #[.int .i64 ka', .int .i64 na', .string sa']) hI.1
  generalize w1.setRow w0.heap.size #[.int .i64 ka', .int .i64 na', .string sa'] = x1 at hP ⊢
  have hB1 := (hP.keeps.block _ (lt_of_block hI.2.1) (by omega)).trans hI.2.1
  have hL1 := hP.below hI.2.2 (Nat.le_refl _)
  rw [hd, put]
  refine wpList_store_row hgp 23 x' y' hp (w0.heap.size + 1) #[.int .i64 kb', .int .i64 nb', .string sb'] hx' hy' 23 _ hB1 size23 rfl (by simp [Value.oneCell']) ?_
  have hP2 := puts_setRow (cells := #[.int .i64 kb', .int .i64 nb', .string sb']) hB1
  generalize x1.setRow (w0.heap.size + 1) #[.int .i64 kb', .int .i64 nb', .string sb'] = x2 at hP2 ⊢
  rw [hdp, put]
  exact h x2 ⟨(hP2.keeps.block _ (lt_of_block hP.at') (by omega)).trans hP.at', hP2.at', hP2.below hL1 (by omega)⟩
/-- the order of two right values -/
def cmpV (k n : Int) (s : ByteArray) (k' n' : Int) (s' : ByteArray) : Int := if k ≠ k' then sg (k - k') else if k = 3 then Lib.compareBytes s.data.toList s'.data.toList else sg (n - n')
def cmpC (ka na : Int) (sa : ByteArray) (kb nb : Int) (sb : ByteArray) : Int := cmpV (clK ka na sa) (clN ka na sa) (clS ka na sa) (clK kb nb sb) (clN kb nb sb) (clS kb nb sb)
set_option maxHeartbeats 1000000 in
theorem compare_any (ka na kb nb : Int) (sa sb : ByteArray) (hsa : sa.size ≤ maxLen) (hsb : sb.size ≤ maxLen) (w : World) :
    Calls Tryz.prog 20 #[val ka na sa, val kb nb sb] w fun e w' => e = .returned (.int .i64 (cmpC ka na sa kb nb sb)) ∧ Below w.heap.size w w' := by
  have HSA := Lib.hid hsa
  have HSB := Lib.hid hsb
  obtain ⟨k1, k2, n1, n2, _⟩ := right_bounds (cl_right ka na sa)
  obtain ⟨k3, k4, n3, n4, _⟩ := right_bounds (cl_right kb nb sb)
  have HC : Hid (cmpC ka na sa kb nb sb = cmpV (clK ka na sa) (clN ka na sa) (clS ka na sa) (clK kb nb sb) (clN kb nb sb) (clS kb nb sb)) := Lib.hid rfl
  clear hsa hsb
  go_enter Tryz.func20, Tryz.ntmps20
  go_wp2_with fail
  refine region_tail (fun w' => In2 ka na kb nb sa sb w w') 4 (by kernel_rfl) (by kernel_rfl) ⟨(heap_alloc_old _ _ (by simp)).trans (heap_alloc_new w _), new_at _ _ _ (by simp), by go_grown⟩ ?_
  simp only [List.take_succ_cons, List.take_zero, List.drop_succ_cons, List.drop_zero]
  refine s_val (val ka na sa) (by rfl) (run_load23 (.tmp 2) rfl w.heap.size _ rfl rfl (fun w h => h.1)) ?_
  simp only [Act.put, List.setIfInBounds_toArray, List.set_cons_zero, List.set_cons_succ]
  refine s_call (val (clK ka na sa) (clN ka na sa) (clS ka na sa)) 94 #[val ka na sa] (by rfl) (fun w => by go_simp) (fun w' h => (clean_any ka na sa HSA.out w').mono fun e x hx => ⟨hx.1.trans (by rw [cl_parts]), h.below hx.2⟩) ?_
  simp only [Act.put, List.setIfInBounds_toArray, List.set_cons_zero, List.set_cons_succ]
  refine s_val (val kb nb sb) (by rfl) (run_load23 (.tmp 3) rfl (w.heap.size + 1) _ rfl rfl (fun w h => h.2.1)) ?_
  simp only [Act.put, List.setIfInBounds_toArray, List.set_cons_zero, List.set_cons_succ]
  refine s_call (val (clK kb nb sb) (clN kb nb sb) (clS kb nb sb)) 94 #[val kb nb sb] (by rfl) (fun w => by go_simp) (fun w' h => (clean_any kb nb sb HSB.out w').mono fun e x hx => ⟨hx.1.trans (by rw [cl_parts]), h.below hx.2⟩) ?_
  simp only [Act.put, List.setIfInBounds_toArray, List.set_cons_zero, List.set_cons_succ]
  refine s_done ?_
  intro w1 hI1
  refine tail2 rfl rfl rfl rfl rfl rfl rfl rfl rfl rfl hI1 ?_
  intro w2 hI2
  clear hI1
  generalize clK ka na sa = K at *
  generalize clN ka na sa = N at *
  generalize clS ka na sa = S at *
  generalize clK kb nb sb = K' at *
  generalize clN kb nb sb = N' at *
  generalize clS kb nb sb = S' at *
  have HI := Lib.hid hI2
  clear hI2
  have a0 : w2.cell? ⟨w.heap.size, 0, none⟩ = some (.int .i64 K) := (cell_of_row w2 _ 0 _ _ _ HI.out.1).trans rfl
  have a1 : w2.cell? ⟨w.heap.size, 1, none⟩ = some (.int .i64 N) := (cell_of_row w2 _ 1 _ _ _ HI.out.1).trans rfl
  have a2 : w2.cell? ⟨w.heap.size, 2, none⟩ = some (.string S) := (cell_of_row w2 _ 2 _ _ _ HI.out.1).trans rfl
  have d0 : w2.cell? ⟨w.heap.size + 1, 0, none⟩ = some (.int .i64 K') := (cell_of_row w2 _ 0 _ _ _ HI.out.2.1).trans rfl
  have d1 : w2.cell? ⟨w.heap.size + 1, 1, none⟩ = some (.int .i64 N') := (cell_of_row w2 _ 1 _ _ _ HI.out.2.1).trans rfl
  have d2 : w2.cell? ⟨w.heap.size + 1, 2, none⟩ = some (.string S') := (cell_of_row w2 _ 2 _ _ _ HI.out.2.1).trans rfl
  cases hk : (K != K') with
  | true =>
    go_wp2_with fail
    refine (cmpInt_any _ _ _).mono ?_
    rintro e w3 ⟨rfl, hb3⟩
    go_wp2
    go_ret
    exact ⟨ret_int (by rw [HC.out]; simp [cmpV, show K ≠ K' from by simpa using hk]), below_call HI.out.2.2 hb3⟩
  | false =>
    have hk2 : K = K' := by simpa using hk
    have HK := Lib.hid hk2
    clear hk2
    cases h3 : (K == 3) with
    | true =>
      have HT := Lib.hid (show K = 3 from by simpa using h3)
      go_wp2_with fail
      refine ((Tryz.strings_Compare _ _ _).below).mono ?_
      rintro e w3 ⟨rfl, hb3⟩
      go_wp2
      go_ret
      exact ⟨ret_int (by rw [HC.out]; simp [cmpV, HK.out.symm, HT.out]), below_call HI.out.2.2 hb3⟩
    | false =>
      have HT := Lib.hid (show ¬ K = 3 from by simpa using h3)
      go_wp2_with fail
      refine (cmpInt_any _ _ _).mono ?_
      rintro e w3 ⟨rfl, hb3⟩
      go_wp2
      go_ret
      exact ⟨ret_int (by rw [HC.out]; simp [cmpV, HK.out.symm, HT.out]), below_call HI.out.2.2 hb3⟩
set_option maxHeartbeats 1000000 in
theorem compared_any (ka na kb nb : Int) (sa sb : ByteArray) (hsa : sa.size ≤ maxLen) (hsb : sb.size ≤ maxLen) (w : World) :
    Calls Tryz.prog 21 #[val ka na sa, val kb nb sb] w fun e w' => e = .returned (.int .i64 (cmpC ka na sa kb nb sb)) ∧ Below w.heap.size w w' := by
  have HSA := Lib.hid hsa
  have HSB := Lib.hid hsb
  obtain ⟨k1, k2, n1, n2, _⟩ := right_bounds (cl_right ka na sa)
  obtain ⟨k3, k4, n3, n4, _⟩ := right_bounds (cl_right kb nb sb)
  have HC : Hid (cmpC ka na sa kb nb sb = cmpV (clK ka na sa) (clN ka na sa) (clS ka na sa) (clK kb nb sb) (clN kb nb sb) (clS kb nb sb)) := Lib.hid rfl
  clear hsa hsb
  go_enter Tryz.func21, Tryz.ntmps21
  go_wp2_with fail
  refine region_tail (fun w' => In2 ka na kb nb sa sb w w') 4 (by kernel_rfl) (by kernel_rfl) ⟨(heap_alloc_old _ _ (by simp)).trans (heap_alloc_new w _), new_at _ _ _ (by simp), by go_grown⟩ ?_
  simp only [List.take_succ_cons, List.take_zero, List.drop_succ_cons, List.drop_zero]
  refine s_val (val ka na sa) (by rfl) (run_load23 (.tmp 2) rfl w.heap.size _ rfl rfl (fun w h => h.1)) ?_
  simp only [Act.put, List.setIfInBounds_toArray, List.set_cons_zero, List.set_cons_succ]
  refine s_call (val (clK ka na sa) (clN ka na sa) (clS ka na sa)) 97 #[val ka na sa] (by rfl) (fun w => by go_simp) (fun w' h => (right_any ka na sa HSA.out w').mono fun e x hx => ⟨hx.1.trans (by rw [cl_parts]), h.below hx.2⟩) ?_
  simp only [Act.put, List.setIfInBounds_toArray, List.set_cons_zero, List.set_cons_succ]
  refine s_val (val kb nb sb) (by rfl) (run_load23 (.tmp 3) rfl (w.heap.size + 1) _ rfl rfl (fun w h => h.2.1)) ?_
  simp only [Act.put, List.setIfInBounds_toArray, List.set_cons_zero, List.set_cons_succ]
  refine s_call (val (clK kb nb sb) (clN kb nb sb) (clS kb nb sb)) 97 #[val kb nb sb] (by rfl) (fun w => by go_simp) (fun w' h => (right_any kb nb sb HSB.out w').mono fun e x hx => ⟨hx.1.trans (by rw [cl_parts]), h.below hx.2⟩) ?_
  simp only [Act.put, List.setIfInBounds_toArray, List.set_cons_zero, List.set_cons_succ]
  refine s_done ?_
  intro w1 hI1
  refine tail2 rfl rfl rfl rfl rfl rfl rfl rfl rfl rfl hI1 ?_
  intro w2 hI2
  clear hI1
  generalize clK ka na sa = K at *
  generalize clN ka na sa = N at *
  generalize clS ka na sa = S at *
  generalize clK kb nb sb = K' at *
  generalize clN kb nb sb = N' at *
  generalize clS kb nb sb = S' at *
  have HI := Lib.hid hI2
  clear hI2
  have a0 : w2.cell? ⟨w.heap.size, 0, none⟩ = some (.int .i64 K) := (cell_of_row w2 _ 0 _ _ _ HI.out.1).trans rfl
  have a1 : w2.cell? ⟨w.heap.size, 1, none⟩ = some (.int .i64 N) := (cell_of_row w2 _ 1 _ _ _ HI.out.1).trans rfl
  have a2 : w2.cell? ⟨w.heap.size, 2, none⟩ = some (.string S) := (cell_of_row w2 _ 2 _ _ _ HI.out.1).trans rfl
  have d0 : w2.cell? ⟨w.heap.size + 1, 0, none⟩ = some (.int .i64 K') := (cell_of_row w2 _ 0 _ _ _ HI.out.2.1).trans rfl
  have d1 : w2.cell? ⟨w.heap.size + 1, 1, none⟩ = some (.int .i64 N') := (cell_of_row w2 _ 1 _ _ _ HI.out.2.1).trans rfl
  have d2 : w2.cell? ⟨w.heap.size + 1, 2, none⟩ = some (.string S') := (cell_of_row w2 _ 2 _ _ _ HI.out.2.1).trans rfl
  cases hk : (K != K') with
  | true =>
    have hs : (sg (K - K') != 0) = true := by have : K ≠ K' := by simpa using hk
                                              unfold sg; split <;> (try split) <;> simp <;> omega
    go_wp2_with fail
    refine (sign_any _ _).mono ?_
    rintro e w3 ⟨rfl, hb3⟩
    have HI3 := Lib.hid (HI.out.below hb3)
    clear a0 a1 a2 d0 d1 d2 hb3
    have ea0 : w3.cell? ⟨w.heap.size, 0, none⟩ = some (.int .i64 K) := (cell_of_row w3 _ 0 _ _ _ HI3.out.1).trans rfl
    have ea1 : w3.cell? ⟨w.heap.size, 1, none⟩ = some (.int .i64 N) := (cell_of_row w3 _ 1 _ _ _ HI3.out.1).trans rfl
    have ea2 : w3.cell? ⟨w.heap.size, 2, none⟩ = some (.string S) := (cell_of_row w3 _ 2 _ _ _ HI3.out.1).trans rfl
    have ed0 : w3.cell? ⟨w.heap.size + 1, 0, none⟩ = some (.int .i64 K') := (cell_of_row w3 _ 0 _ _ _ HI3.out.2.1).trans rfl
    have ed1 : w3.cell? ⟨w.heap.size + 1, 1, none⟩ = some (.int .i64 N') := (cell_of_row w3 _ 1 _ _ _ HI3.out.2.1).trans rfl
    have ed2 : w3.cell? ⟨w.heap.size + 1, 2, none⟩ = some (.string S') := (cell_of_row w3 _ 2 _ _ _ HI3.out.2.1).trans rfl
    go_wp2
    go_ret
    exact ⟨ret_int (by rw [HC.out]; simp [cmpV, show K ≠ K' from by simpa using hk]), HI3.out.2.2⟩
  | false =>
    have hk2 : K = K' := by simpa using hk
    have hs : (sg (K - K') != 0) = false := by rw [hk2]; simp [sg]
    have HK := Lib.hid hk2
    clear hk2
    cases h3 : (K == 3) with
    | true =>
      have HT := Lib.hid (show K = 3 from by simpa using h3)
      go_wp2_with fail
      refine (sign_any _ _).mono ?_
      rintro e w3 ⟨rfl, hb3⟩
      have HI3 := Lib.hid (HI.out.below hb3)
      clear a0 a1 a2 d0 d1 d2 hb3
      have ea0 : w3.cell? ⟨w.heap.size, 0, none⟩ = some (.int .i64 K) := (cell_of_row w3 _ 0 _ _ _ HI3.out.1).trans rfl
      have ea1 : w3.cell? ⟨w.heap.size, 1, none⟩ = some (.int .i64 N) := (cell_of_row w3 _ 1 _ _ _ HI3.out.1).trans rfl
      have ea2 : w3.cell? ⟨w.heap.size, 2, none⟩ = some (.string S) := (cell_of_row w3 _ 2 _ _ _ HI3.out.1).trans rfl
      have ed0 : w3.cell? ⟨w.heap.size + 1, 0, none⟩ = some (.int .i64 K') := (cell_of_row w3 _ 0 _ _ _ HI3.out.2.1).trans rfl
      have ed1 : w3.cell? ⟨w.heap.size + 1, 1, none⟩ = some (.int .i64 N') := (cell_of_row w3 _ 1 _ _ _ HI3.out.2.1).trans rfl
      have ed2 : w3.cell? ⟨w.heap.size + 1, 2, none⟩ = some (.string S') := (cell_of_row w3 _ 2 _ _ _ HI3.out.2.1).trans rfl
      go_wp2_with fail
      refine ((Tryz.strings_Compare _ _ _).below).mono ?_
      rintro e w4 ⟨rfl, hb4⟩
      go_wp2
      go_ret
      exact ⟨ret_int (by rw [HC.out]; simp [cmpV, HK.out.symm, HT.out]), below_call HI3.out.2.2 hb4⟩
    | false =>
      have HT := Lib.hid (show ¬ K = 3 from by simpa using h3)
      go_wp2_with fail
      refine (sign_any _ _).mono ?_
      rintro e w3 ⟨rfl, hb3⟩
      have HI3 := Lib.hid (HI.out.below hb3)
      clear a0 a1 a2 d0 d1 d2 hb3
      have ea0 : w3.cell? ⟨w.heap.size, 0, none⟩ = some (.int .i64 K) := (cell_of_row w3 _ 0 _ _ _ HI3.out.1).trans rfl
      have ea1 : w3.cell? ⟨w.heap.size, 1, none⟩ = some (.int .i64 N) := (cell_of_row w3 _ 1 _ _ _ HI3.out.1).trans rfl
      have ea2 : w3.cell? ⟨w.heap.size, 2, none⟩ = some (.string S) := (cell_of_row w3 _ 2 _ _ _ HI3.out.1).trans rfl
      have ed0 : w3.cell? ⟨w.heap.size + 1, 0, none⟩ = some (.int .i64 K') := (cell_of_row w3 _ 0 _ _ _ HI3.out.2.1).trans rfl
      have ed1 : w3.cell? ⟨w.heap.size + 1, 1, none⟩ = some (.int .i64 N') := (cell_of_row w3 _ 1 _ _ _ HI3.out.2.1).trans rfl
      have ed2 : w3.cell? ⟨w.heap.size + 1, 2, none⟩ = some (.string S') := (cell_of_row w3 _ 2 _ _ _ HI3.out.2.1).trans rfl
      go_wp2_with fail
      refine (sign_any _ _).mono ?_
      rintro e w4 ⟨rfl, hb4⟩
      go_wp2
      go_ret
      exact ⟨ret_int (by rw [HC.out]; simp [cmpV, HK.out.symm, HT.out]), below_call HI3.out.2.2 hb4⟩
end YtabojeleomfgnaaGreatDoor
end Go.Proofs
