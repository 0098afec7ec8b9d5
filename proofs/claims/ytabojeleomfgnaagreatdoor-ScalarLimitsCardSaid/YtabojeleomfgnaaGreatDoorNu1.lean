/- Numbers: number, numbers, floorDiv, and the reference's. -/
import Derived.Test.YtabojeleomfgnaaGreatDoorT2
namespace Go.Proofs
open Go.RowKit
namespace YtabojeleomfgnaaGreatDoor
set_option maxRecDepth 100000
def numT (k n : Int) : V3 := clT (k, n, ByteArray.empty)
theorem number_t (k n : Int) (w : World) : Calls Tryz.prog 123 #[.int .i64 k, .int .i64 n] w fun e w' => e = .returned (toV (numT k n)) ∧ Below w.heap.size w w' := by
  have CK : Hid (∀ w, Calls Tryz.prog 94 #[.agg #[.int .i64 k, .int .i64 n, .string ⟨#[]⟩]] w fun e w' => e = .returned (toV (numT k n)) ∧ Below w.heap.size w w') := Lib.hid (fun w => clean_t (k, n, ByteArray.empty) (Nat.zero_le _) w)
  generalize numT k n = R at CK ⊢
  go_enter Tryz.func123, Tryz.ntmps123
  go_wp2_with fail
  refine (CK.out _).mono ?_
  rintro e w1 ⟨rfl, hb1⟩
  have R1 : Hid (w1.heap[w.heap.size]? = some (.cells (cells nullT) 23 (0, 0))) := Lib.hid ((hb1.block _ (by simp)).trans (new_at _ _ _ (by simp)))
  have HL1 := Lib.hid (below_call (w := w) (by go_grown) hb1)
  clear hb1
  go_wp2_with (refine store23 rfl (.tmp 4) (.tmp 8) rfl w.heap.size (R) rfl rfl _ R1.out ?_; intro wz hp; have HP := Lib.hid hp; clear hp)
  exact bodyPost_ret (ret23 rfl rfl HP.out.at') rfl ⟨rfl, HP.out.low HL1.out (Nat.le_refl _)⟩
theorem rnumber_t (n : Int) (w : World) : Calls Tryz.prog 118 #[.int .i64 n] w fun e w' => e = .returned (toV (numT 2 n)) ∧ Below w.heap.size w w' := by
  have CK : Hid (∀ w, Calls Tryz.prog 97 #[.agg #[.int .i64 2, .int .i64 n, .string ⟨#[]⟩]] w fun e w' => e = .returned (toV (numT 2 n)) ∧ Below w.heap.size w w') := Lib.hid (fun w => right_t (2, n, ByteArray.empty) (Nat.zero_le _) w)
  generalize numT 2 n = R at CK ⊢
  go_enter Tryz.func118, Tryz.ntmps118
  go_wp2_with fail
  refine (CK.out _).mono ?_
  rintro e w1 ⟨rfl, hb1⟩
  have R1 : Hid (w1.heap[w.heap.size]? = some (.cells (cells nullT) 23 (0, 0))) := Lib.hid ((hb1.block _ (by simp)).trans (new_at _ _ _ (by simp)))
  have HL1 := Lib.hid (below_call (w := w) (by go_grown) hb1)
  clear hb1
  go_wp2_with (refine store23 rfl (.tmp 2) (.tmp 5) rfl w.heap.size (R) rfl rfl _ R1.out ?_; intro wz hp; have HP := Lib.hid hp; clear hp)
  exact bodyPost_ret (ret23 rfl rfl HP.out.at') rfl ⟨rfl, HP.out.low HL1.out (Nat.le_refl _)⟩
theorem rmoment_t (n : Int) (w : World) : Calls Tryz.prog 137 #[.int .i64 n] w fun e w' => e = .returned (toV (numT 4 n)) ∧ Below w.heap.size w w' := by
  have CK : Hid (∀ w, Calls Tryz.prog 97 #[.agg #[.int .i64 4, .int .i64 n, .string ⟨#[]⟩]] w fun e w' => e = .returned (toV (numT 4 n)) ∧ Below w.heap.size w w') := Lib.hid (fun w => right_t (4, n, ByteArray.empty) (Nat.zero_le _) w)
  generalize numT 4 n = R at CK ⊢
  go_enter Tryz.func137, Tryz.ntmps137
  go_wp2_with fail
  refine (CK.out _).mono ?_
  rintro e w1 ⟨rfl, hb1⟩
  have R1 : Hid (w1.heap[w.heap.size]? = some (.cells (cells nullT) 23 (0, 0))) := Lib.hid ((hb1.block _ (by simp)).trans (new_at _ _ _ (by simp)))
  have HL1 := Lib.hid (below_call (w := w) (by go_grown) hb1)
  clear hb1
  go_wp2_with (refine store23 rfl (.tmp 2) (.tmp 5) rfl w.heap.size (R) rfl rfl _ R1.out ?_; intro wz hp; have HP := Lib.hid hp; clear hp)
  exact bodyPost_ret (ret23 rfl rfl HP.out.at') rfl ⟨rfl, HP.out.low HL1.out (Nat.le_refl _)⟩
def okB (X Y : V3) (k l : Int) : Bool := !(X.1 != k) && !(Y.1 != l)
def onlyIf (b : Bool) (n : Int) : Int := if b = true then n else 0
set_option maxHeartbeats 2000000 in
theorem numbers_t (x y : V3) (k l : Int) (hx : Sz x) (hy : Sz y) (w : World) :
    Calls Tryz.prog 122 #[toV x, .int .i64 k, toV y, .int .i64 l] w fun e w' => e = .returned (.tuple #[.int .i64 (onlyIf (okB (clT x) (clT y) k l) (clT x).2.1), .int .i64 (onlyIf (okB (clT x) (clT y) k l) (clT y).2.1), .bool (okB (clT x) (clT y) k l)]) ∧ Below w.heap.size w w' := by
  have HSA := Lib.hid hx
  have HSB := Lib.hid hy
  clear hx hy
  rw [← cl_comps x, ← cl_comps y]
  obtain ⟨ka, na, sa⟩ := x
  obtain ⟨kb, nb, sb⟩ := y
  unfold okB onlyIf
  dsimp only
  generalize hr : Value.tuple _ = r
  have HR := Lib.hid hr.symm
  clear hr
  change Calls Tryz.prog 122 #[val ka na sa, .int .i64 k, val kb nb sb, .int .i64 l] w _
  go_enter Tryz.func122, Tryz.ntmps122
  go_wp2_with fail
  refine region_tail (fun w' => In2 ka na kb nb sa sb w w') 4 (by kernel_rfl) (by kernel_rfl) ⟨(heap_alloc_old _ _ (by simp)).trans (heap_alloc_new w _), new_at _ _ _ (by simp), by go_grown⟩ ?_
  simp only [List.take_succ_cons, List.take_zero, List.drop_succ_cons, List.drop_zero]
  refine s_val (val ka na sa) (by rfl) (run_load23 (.tmp 4) rfl w.heap.size _ rfl rfl (fun w h => h.1)) ?_
  simp only [Act.put, List.setIfInBounds_toArray, List.set_cons_zero, List.set_cons_succ]
  refine s_call (val (clK ka na sa) (clN ka na sa) (clS ka na sa)) 94 #[val ka na sa] (by rfl) (fun w => by go_simp) (fun w' h => (clean_any ka na sa HSA.out w').mono fun e x hx => ⟨hx.1.trans (by rw [cl_parts]), h.below hx.2⟩) ?_
  simp only [Act.put, List.setIfInBounds_toArray, List.set_cons_zero, List.set_cons_succ]
  refine s_val (val kb nb sb) (by rfl) (run_load23 (.tmp 6) rfl (w.heap.size + 1) _ rfl rfl (fun w h => h.2.1)) ?_
  simp only [Act.put, List.setIfInBounds_toArray, List.set_cons_zero, List.set_cons_succ]
  refine s_call (val (clK kb nb sb) (clN kb nb sb) (clS kb nb sb)) 94 #[val kb nb sb] (by rfl) (fun w => by go_simp) (fun w' h => (clean_any kb nb sb HSB.out w').mono fun e x hx => ⟨hx.1.trans (by rw [cl_parts]), h.below hx.2⟩) ?_
  simp only [Act.put, List.setIfInBounds_toArray, List.set_cons_zero, List.set_cons_succ]
  refine s_done ?_
  intro w1 hI1
  refine tail2 rfl rfl rfl rfl rfl rfl rfl rfl rfl rfl hI1 ?_
  intro w2 hI2
  clear hI1
  generalize clK ka na sa = K at *
  generalize clN ka na sa = N at *
  generalize clS ka na sa = S at *
  generalize clK kb nb sb = K' at *
  generalize clN kb nb sb = N' at *
  generalize clS kb nb sb = S' at *
  have HI := Lib.hid hI2
  clear hI2
  have a0 : w2.cell? ⟨w.heap.size, 0, none⟩ = some (.int .i64 K) := (cell_of_row w2 _ 0 _ _ _ HI.out.1).trans rfl
  have a1 : w2.cell? ⟨w.heap.size, 1, none⟩ = some (.int .i64 N) := (cell_of_row w2 _ 1 _ _ _ HI.out.1).trans rfl
  have a2 : w2.cell? ⟨w.heap.size, 2, none⟩ = some (.string S) := (cell_of_row w2 _ 2 _ _ _ HI.out.1).trans rfl
  have d0 : w2.cell? ⟨w.heap.size + 1, 0, none⟩ = some (.int .i64 K') := (cell_of_row w2 _ 0 _ _ _ HI.out.2.1).trans rfl
  have d1 : w2.cell? ⟨w.heap.size + 1, 1, none⟩ = some (.int .i64 N') := (cell_of_row w2 _ 1 _ _ _ HI.out.2.1).trans rfl
  have d2 : w2.cell? ⟨w.heap.size + 1, 2, none⟩ = some (.string S') := (cell_of_row w2 _ 2 _ _ _ HI.out.2.1).trans rfl
  cases hk : (K != k) with
  | true =>
    go_wp2
    go_ret3
    exact ⟨by rw [HR.out, hk]; rfl, HI.out.2.2⟩
  | false =>
    cases hl : (K' != l) with
    | true =>
      go_wp2
      go_ret3
      exact ⟨by rw [HR.out, hk, hl]; rfl, HI.out.2.2⟩
    | false =>
      go_wp2
      go_quiet (fail)
      go_wp2
      go_ret3
      exact ⟨by rw [HR.out, hk, hl]; rfl, below_drewN HI.out.2.2 _⟩
def fdiv (x y : Int) : Int := if (x.tmod y != 0 && (decide (x < 0) != decide (y < 0))) = true then wrap64 (wrap64 (x.tdiv y) - 1) else wrap64 (x.tdiv y)
theorem fdiv_t (x y : Int) (hy : y ≠ 0) (w : World) : Calls Tryz.prog 124 #[.int .i64 x, .int .i64 y] w fun e w' => e = .returned (.int .i64 (fdiv x y)) ∧ Below w.heap.size w w' := by
  have HR := Lib.hid (show fdiv x y = if (x.tmod y != 0 && (decide (x < 0) != decide (y < 0))) = true then wrap64 (wrap64 (x.tdiv y) - 1) else wrap64 (x.tdiv y) from rfl)
  generalize fdiv x y = R at HR ⊢
  cases h1 : (x.tmod y != 0) with
  | false =>
    go_enter Tryz.func124, Tryz.ntmps124
    go_wp2
    go_ret
    exact ⟨by rw [HR.out, h1]; rfl, by go_grown⟩
  | true =>
    cases h2 : (decide (x < 0) == decide (y < 0)) with
    | true =>
      go_enter Tryz.func124, Tryz.ntmps124
      go_wp2
      go_ret
      exact ⟨by rw [HR.out, h1, bne, h2]; rfl, by go_grown⟩
    | false =>
      go_enter Tryz.func124, Tryz.ntmps124
      go_wp2
      go_ret
      exact ⟨by rw [HR.out, h1, bne, h2]; rfl, by go_grown⟩
theorem rfdiv_t (x y : Int) (hy : y ≠ 0) (w : World) : Calls Tryz.prog 139 #[.int .i64 x, .int .i64 y] w fun e w' => e = .returned (.int .i64 (fdiv x y)) ∧ Below w.heap.size w w' := by
  have HR := Lib.hid (show fdiv x y = if (x.tmod y != 0 && (decide (x < 0) != decide (y < 0))) = true then wrap64 (wrap64 (x.tdiv y) - 1) else wrap64 (x.tdiv y) from rfl)
  generalize fdiv x y = R at HR ⊢
  cases h1 : (x.tmod y != 0) with
  | false =>
    go_enter Tryz.func139, Tryz.ntmps139
    go_wp2
    go_ret
    exact ⟨by rw [HR.out, h1]; rfl, by go_grown⟩
  | true =>
    cases h2 : (decide (x < 0) == decide (y < 0)) with
    | true =>
      go_enter Tryz.func139, Tryz.ntmps139
      go_wp2
      go_ret
      exact ⟨by rw [HR.out, h1, bne, h2]; rfl, by go_grown⟩
    | false =>
      go_enter Tryz.func139, Tryz.ntmps139
      go_wp2
      go_ret
      exact ⟨by rw [HR.out, h1, bne, h2]; rfl, by go_grown⟩
end YtabojeleomfgnaaGreatDoor
end Go.Proofs
