/- Not, Equal, Less; alike. -/
import Derived.Test.YtabojeleomfgnaaGreatDoorLg2
namespace Go.Proofs
open Go.RowKit
namespace YtabojeleomfgnaaGreatDoor
set_option maxRecDepth 100000
theorem run_field0 (k n : Int) (s : ByteArray) (w : World) : (Instr.field 23 (.agg #[.int .i64 k, .int .i64 n, .string s]) 0).run Tryz.prog w = .ok (.int .i64 k) w := by kernel_rfl
theorem run_field1 (k n : Int) (s : ByteArray) (w : World) : (Instr.field 23 (.agg #[.int .i64 k, .int .i64 n, .string s]) 1).run Tryz.prog w = .ok (.int .i64 n) w := by kernel_rfl
theorem run_field2 (k n : Int) (s : ByteArray) (w : World) : (Instr.field 23 (.agg #[.int .i64 k, .int .i64 n, .string s]) 2).run Tryz.prog w = .ok (.string s) w := by kernel_rfl
def alikeB (x y : V3) : Bool := (clT x).1 != 0 && (clT x).1 == (clT y).1
theorem alike_t (x y : V3) (hx : Sz x) (hy : Sz y) (w : World) : Calls Tryz.prog 121 #[toV x, toV y] w fun e w' => e = .returned (.bool (alikeB x y)) ∧ Below w.heap.size w w' := by
  have CX := Lib.hid (fun w => clean_t x hx w)
  have CY := Lib.hid (fun w => clean_t y hy w)
  have HR := Lib.hid (show alikeB x y = ((clT x).1 != 0 && (clT x).1 == (clT y).1) from rfl)
  clear hx hy
  generalize alikeB x y = R at HR ⊢
  generalize clT x = X at CX HR
  generalize clT y = Y at CY HR
  obtain ⟨K, M, T⟩ := X
  obtain ⟨K', M', T'⟩ := Y
  obtain ⟨ka, na, sa⟩ := x
  obtain ⟨kb, nb, sb⟩ := y
  change Calls Tryz.prog 121 #[val ka na sa, val kb nb sb] w _
  change Hid (∀ w, Calls Tryz.prog 94 #[val ka na sa] w fun e w' => e = .returned (.agg #[.int .i64 K, .int .i64 M, .string T]) ∧ Below w.heap.size w w') at CX
  change Hid (∀ w, Calls Tryz.prog 94 #[val kb nb sb] w fun e w' => e = .returned (.agg #[.int .i64 K', .int .i64 M', .string T']) ∧ Below w.heap.size w w') at CY
  change Hid (R = (K != 0 && K == K')) at HR
  have F1 := run_field0 K M T
  have F2 := run_field0 K' M' T'
  cases hk : (K != 0) with
  | false =>
    go_enter Tryz.func121, Tryz.ntmps121
    go_wp2_with fail
    refine (CX.out _).mono ?_
    rintro e w1 ⟨rfl, hb1⟩
    have HL := Lib.hid (below_call (w := w) (by go_grown) hb1)
    clear hb1
    go_wp2
    go_ret
    exact ⟨by rw [HR.out, hk]; rfl, HL.out⟩
  | true =>
    go_enter Tryz.func121, Tryz.ntmps121
    go_wp2_with fail
    refine (CX.out _).mono ?_
    rintro e w1 ⟨rfl, hb1⟩
    have HB := Lib.hid ((hb1.block (w.heap.size + 1) (by simp)).trans (new_at _ _ _ (by simp)))
    have HL := Lib.hid (below_call (w := w) (by go_grown) hb1)
    clear hb1
    have d0 : w1.cell? ⟨w.heap.size + 1, 0, none⟩ = some (.int .i64 kb) := (cell_of_row w1 _ 0 _ _ _ HB.out).trans rfl
    have d1 : w1.cell? ⟨w.heap.size + 1, 1, none⟩ = some (.int .i64 nb) := (cell_of_row w1 _ 1 _ _ _ HB.out).trans rfl
    have d2 : w1.cell? ⟨w.heap.size + 1, 2, none⟩ = some (.string sb) := (cell_of_row w1 _ 2 _ _ _ HB.out).trans rfl
    go_wp2_with fail
    refine (CY.out _).mono ?_
    rintro e w2 ⟨rfl, hb2⟩
    have HL2 := Lib.hid (below_call HL.out hb2)
    clear hb2 d0 d1 d2
    cases hq : (K == K') with
    | false => go_wp2; go_ret; exact ⟨by rw [HR.out, hk, hq]; rfl, HL2.out⟩
    | true => go_wp2; go_ret; exact ⟨by rw [HR.out, hk, hq]; rfl, HL2.out⟩
theorem ralike_t (x y : V3) (w : World) : Calls Tryz.prog 120 #[toV x, toV y] w fun e w' => e = .returned (.bool (x.1 == y.1 && x.1 != 0)) ∧ Below w.heap.size w w' := by
  obtain ⟨ka, na, sa⟩ := x
  obtain ⟨kb, nb, sb⟩ := y
  change Calls Tryz.prog 120 #[val ka na sa, val kb nb sb] w _
  change Calls Tryz.prog 120 #[val ka na sa, val kb nb sb] w fun e w' => e = .returned (.bool (ka == kb && ka != 0)) ∧ Below w.heap.size w w'
  obtain ⟨R, hR⟩ : ∃ R, R = (ka == kb && ka != 0) := ⟨_, rfl⟩
  rw [← hR]
  have HR := Lib.hid hR
  clear hR
  cases hq : (ka == kb) with
  | false =>
    go_enter Tryz.func120, Tryz.ntmps120
    go_wp2
    go_ret
    exact ⟨by rw [HR.out, hq]; rfl, by go_grown⟩
  | true =>
    cases hk : (ka != 0) with
    | false => go_enter Tryz.func120, Tryz.ntmps120; go_wp2; go_ret; exact ⟨by rw [HR.out, hq, hk]; rfl, by go_grown⟩
    | true => go_enter Tryz.func120, Tryz.ntmps120; go_wp2; go_ret; exact ⟨by rw [HR.out, hq, hk]; rfl, by go_grown⟩
def equalT (x y : V3) : V3 := if alikeB x y = true then boolT (cmp3 x y == 0) else nullT
theorem equal_t (x y : V3) (hx : Sz x) (hy : Sz y) (w : World) : Calls Tryz.prog 40 #[toV x, toV y] w fun e w' => e = .returned (toV (equalT x y)) ∧ Below w.heap.size w w' := by
  have CA := Lib.hid (fun w => alike_t x y hx hy w)
  have CC := Lib.hid (fun w => compare_t x y hx hy w)
  clear hx hy
  cases hq : alikeB x y with
  | false =>
    have HR := Lib.hid (show equalT x y = nullT from by unfold equalT; rw [hq]; rfl)
    rw [hq] at CA
    generalize equalT x y = R at HR ⊢
    clear hq
    obtain ⟨ka, na, sa⟩ := x
    obtain ⟨kb, nb, sb⟩ := y
    change Calls Tryz.prog 40 #[val ka na sa, val kb nb sb] w _
    have I0 : Hid (In3 (ka, na, sa) (kb, nb, sb) w (((w.alloc (.cells #[.int .i64 ka, .int .i64 na, .string sa] 23)).alloc (.cells #[.int .i64 kb, .int .i64 nb, .string sb] 23)).alloc (.cells #[.int .i64 0, .int .i64 0, .string ⟨#[]⟩] 23))) := Lib.hid ⟨(heap_alloc_old _ _ (by simp only [World.size_alloc]; omega)).trans ((heap_alloc_old _ _ (by simp)).trans (heap_alloc_new w _)), (heap_alloc_old _ _ (by simp)).trans (new_at _ _ _ (by simp)), new_at _ _ _ (by simp), by go_grown⟩
    go_enter Tryz.func40, Tryz.ntmps40
    go_wp2_with fail
    refine (CA.out _).mono ?_
    rintro e w1 ⟨rfl, hb1⟩
    have I1 := Lib.hid (I0.out.below hb1)
    clear hb1
    have a0 : w1.cell? ⟨w.heap.size, 0, none⟩ = some (.int .i64 ka) := (cell_of_row w1 _ 0 _ _ _ I1.out.1).trans rfl
    have a1 : w1.cell? ⟨w.heap.size, 1, none⟩ = some (.int .i64 na) := (cell_of_row w1 _ 1 _ _ _ I1.out.1).trans rfl
    have a2 : w1.cell? ⟨w.heap.size, 2, none⟩ = some (.string sa) := (cell_of_row w1 _ 2 _ _ _ I1.out.1).trans rfl
    have d0 : w1.cell? ⟨w.heap.size + 1, 0, none⟩ = some (.int .i64 kb) := (cell_of_row w1 _ 0 _ _ _ I1.out.2.1).trans rfl
    have d1 : w1.cell? ⟨w.heap.size + 1, 1, none⟩ = some (.int .i64 nb) := (cell_of_row w1 _ 1 _ _ _ I1.out.2.1).trans rfl
    have d2 : w1.cell? ⟨w.heap.size + 1, 2, none⟩ = some (.string sb) := (cell_of_row w1 _ 2 _ _ _ I1.out.2.1).trans rfl
    go_wp2_with (refine store23 rfl (.tmp 4) (.tmp 9) rfl (w.heap.size + 2) (nullT) rfl rfl _ I1.out.2.2.1 ?_; intro wz hp; have HP := Lib.hid hp; clear hp)
    exact bodyPost_ret (ret23 rfl rfl HP.out.at') rfl ⟨by rw [HR.out], HP.out.low I1.out.2.2.2 (by omega)⟩

  | true =>
    have HR := Lib.hid (show equalT x y = boolT (cmp3 x y == 0) from by unfold equalT; rw [hq]; rfl)
    rw [hq] at CA
    generalize equalT x y = R at HR ⊢
    generalize cmp3 x y = c at CC HR
    clear hq
    obtain ⟨ka, na, sa⟩ := x
    obtain ⟨kb, nb, sb⟩ := y
    change Calls Tryz.prog 40 #[val ka na sa, val kb nb sb] w _
    have I0 : Hid (In3 (ka, na, sa) (kb, nb, sb) w (((w.alloc (.cells #[.int .i64 ka, .int .i64 na, .string sa] 23)).alloc (.cells #[.int .i64 kb, .int .i64 nb, .string sb] 23)).alloc (.cells #[.int .i64 0, .int .i64 0, .string ⟨#[]⟩] 23))) := Lib.hid ⟨(heap_alloc_old _ _ (by simp only [World.size_alloc]; omega)).trans ((heap_alloc_old _ _ (by simp)).trans (heap_alloc_new w _)), (heap_alloc_old _ _ (by simp)).trans (new_at _ _ _ (by simp)), new_at _ _ _ (by simp), by go_grown⟩
    go_enter Tryz.func40, Tryz.ntmps40
    go_wp2_with fail
    refine (CA.out _).mono ?_
    rintro e w1 ⟨rfl, hb1⟩
    have I1 := Lib.hid (I0.out.below hb1)
    clear hb1
    have a0 : w1.cell? ⟨w.heap.size, 0, none⟩ = some (.int .i64 ka) := (cell_of_row w1 _ 0 _ _ _ I1.out.1).trans rfl
    have a1 : w1.cell? ⟨w.heap.size, 1, none⟩ = some (.int .i64 na) := (cell_of_row w1 _ 1 _ _ _ I1.out.1).trans rfl
    have a2 : w1.cell? ⟨w.heap.size, 2, none⟩ = some (.string sa) := (cell_of_row w1 _ 2 _ _ _ I1.out.1).trans rfl
    have d0 : w1.cell? ⟨w.heap.size + 1, 0, none⟩ = some (.int .i64 kb) := (cell_of_row w1 _ 0 _ _ _ I1.out.2.1).trans rfl
    have d1 : w1.cell? ⟨w.heap.size + 1, 1, none⟩ = some (.int .i64 nb) := (cell_of_row w1 _ 1 _ _ _ I1.out.2.1).trans rfl
    have d2 : w1.cell? ⟨w.heap.size + 1, 2, none⟩ = some (.string sb) := (cell_of_row w1 _ 2 _ _ _ I1.out.2.1).trans rfl
    go_wp2_with fail
    refine (CC.out _).mono ?_
    rintro e w2 ⟨rfl, hb2⟩
    have I2 := Lib.hid (I1.out.below hb2)
    clear hb2
    clear a0 a1 a2 d0 d1 d2
    have a0 : w2.cell? ⟨w.heap.size, 0, none⟩ = some (.int .i64 ka) := (cell_of_row w2 _ 0 _ _ _ I2.out.1).trans rfl
    have a1 : w2.cell? ⟨w.heap.size, 1, none⟩ = some (.int .i64 na) := (cell_of_row w2 _ 1 _ _ _ I2.out.1).trans rfl
    have a2 : w2.cell? ⟨w.heap.size, 2, none⟩ = some (.string sa) := (cell_of_row w2 _ 2 _ _ _ I2.out.1).trans rfl
    have d0 : w2.cell? ⟨w.heap.size + 1, 0, none⟩ = some (.int .i64 kb) := (cell_of_row w2 _ 0 _ _ _ I2.out.2.1).trans rfl
    have d1 : w2.cell? ⟨w.heap.size + 1, 1, none⟩ = some (.int .i64 nb) := (cell_of_row w2 _ 1 _ _ _ I2.out.2.1).trans rfl
    have d2 : w2.cell? ⟨w.heap.size + 1, 2, none⟩ = some (.string sb) := (cell_of_row w2 _ 2 _ _ _ I2.out.2.1).trans rfl
    go_wp2_with fail
    refine (bool_t _ _).mono ?_
    rintro e w3 ⟨rfl, hb3⟩
    have I3 := Lib.hid (I2.out.below hb3)
    clear hb3
    go_wp2_with (refine store23 rfl (.tmp 4) (.tmp 14) rfl (w.heap.size + 2) (boolT (c == 0)) rfl rfl _ I3.out.2.2.1 ?_; intro wz hp; have HP := Lib.hid hp; clear hp)
    exact bodyPost_ret (ret23 rfl rfl HP.out.at') rfl ⟨by rw [HR.out], HP.out.low I3.out.2.2.2 (by omega)⟩

def lessT (x y : V3) : V3 := if alikeB x y = true then boolT (decide (cmp3 x y < 0)) else nullT
theorem less_t (x y : V3) (hx : Sz x) (hy : Sz y) (w : World) : Calls Tryz.prog 41 #[toV x, toV y] w fun e w' => e = .returned (toV (lessT x y)) ∧ Below w.heap.size w w' := by
  have CA := Lib.hid (fun w => alike_t x y hx hy w)
  have CC := Lib.hid (fun w => compare_t x y hx hy w)
  clear hx hy
  cases hq : alikeB x y with
  | false =>
    have HR := Lib.hid (show lessT x y = nullT from by unfold lessT; rw [hq]; rfl)
    rw [hq] at CA
    generalize lessT x y = R at HR ⊢
    clear hq
    obtain ⟨ka, na, sa⟩ := x
    obtain ⟨kb, nb, sb⟩ := y
    change Calls Tryz.prog 41 #[val ka na sa, val kb nb sb] w _
    have I0 : Hid (In3 (ka, na, sa) (kb, nb, sb) w (((w.alloc (.cells #[.int .i64 ka, .int .i64 na, .string sa] 23)).alloc (.cells #[.int .i64 kb, .int .i64 nb, .string sb] 23)).alloc (.cells #[.int .i64 0, .int .i64 0, .string ⟨#[]⟩] 23))) := Lib.hid ⟨(heap_alloc_old _ _ (by simp only [World.size_alloc]; omega)).trans ((heap_alloc_old _ _ (by simp)).trans (heap_alloc_new w _)), (heap_alloc_old _ _ (by simp)).trans (new_at _ _ _ (by simp)), new_at _ _ _ (by simp), by go_grown⟩
    go_enter Tryz.func41, Tryz.ntmps41
    go_wp2_with fail
    refine (CA.out _).mono ?_
    rintro e w1 ⟨rfl, hb1⟩
    have I1 := Lib.hid (I0.out.below hb1)
    clear hb1
    have a0 : w1.cell? ⟨w.heap.size, 0, none⟩ = some (.int .i64 ka) := (cell_of_row w1 _ 0 _ _ _ I1.out.1).trans rfl
    have a1 : w1.cell? ⟨w.heap.size, 1, none⟩ = some (.int .i64 na) := (cell_of_row w1 _ 1 _ _ _ I1.out.1).trans rfl
    have a2 : w1.cell? ⟨w.heap.size, 2, none⟩ = some (.string sa) := (cell_of_row w1 _ 2 _ _ _ I1.out.1).trans rfl
    have d0 : w1.cell? ⟨w.heap.size + 1, 0, none⟩ = some (.int .i64 kb) := (cell_of_row w1 _ 0 _ _ _ I1.out.2.1).trans rfl
    have d1 : w1.cell? ⟨w.heap.size + 1, 1, none⟩ = some (.int .i64 nb) := (cell_of_row w1 _ 1 _ _ _ I1.out.2.1).trans rfl
    have d2 : w1.cell? ⟨w.heap.size + 1, 2, none⟩ = some (.string sb) := (cell_of_row w1 _ 2 _ _ _ I1.out.2.1).trans rfl
    go_wp2_with (refine store23 rfl (.tmp 4) (.tmp 9) rfl (w.heap.size + 2) (nullT) rfl rfl _ I1.out.2.2.1 ?_; intro wz hp; have HP := Lib.hid hp; clear hp)
    exact bodyPost_ret (ret23 rfl rfl HP.out.at') rfl ⟨by rw [HR.out], HP.out.low I1.out.2.2.2 (by omega)⟩

  | true =>
    have HR := Lib.hid (show lessT x y = boolT (decide (cmp3 x y < 0)) from by unfold lessT; rw [hq]; rfl)
    rw [hq] at CA
    generalize lessT x y = R at HR ⊢
    generalize cmp3 x y = c at CC HR
    clear hq
    obtain ⟨ka, na, sa⟩ := x
    obtain ⟨kb, nb, sb⟩ := y
    change Calls Tryz.prog 41 #[val ka na sa, val kb nb sb] w _
    have I0 : Hid (In3 (ka, na, sa) (kb, nb, sb) w (((w.alloc (.cells #[.int .i64 ka, .int .i64 na, .string sa] 23)).alloc (.cells #[.int .i64 kb, .int .i64 nb, .string sb] 23)).alloc (.cells #[.int .i64 0, .int .i64 0, .string ⟨#[]⟩] 23))) := Lib.hid ⟨(heap_alloc_old _ _ (by simp only [World.size_alloc]; omega)).trans ((heap_alloc_old _ _ (by simp)).trans (heap_alloc_new w _)), (heap_alloc_old _ _ (by simp)).trans (new_at _ _ _ (by simp)), new_at _ _ _ (by simp), by go_grown⟩
    go_enter Tryz.func41, Tryz.ntmps41
    go_wp2_with fail
    refine (CA.out _).mono ?_
    rintro e w1 ⟨rfl, hb1⟩
    have I1 := Lib.hid (I0.out.below hb1)
    clear hb1
    have a0 : w1.cell? ⟨w.heap.size, 0, none⟩ = some (.int .i64 ka) := (cell_of_row w1 _ 0 _ _ _ I1.out.1).trans rfl
    have a1 : w1.cell? ⟨w.heap.size, 1, none⟩ = some (.int .i64 na) := (cell_of_row w1 _ 1 _ _ _ I1.out.1).trans rfl
    have a2 : w1.cell? ⟨w.heap.size, 2, none⟩ = some (.string sa) := (cell_of_row w1 _ 2 _ _ _ I1.out.1).trans rfl
    have d0 : w1.cell? ⟨w.heap.size + 1, 0, none⟩ = some (.int .i64 kb) := (cell_of_row w1 _ 0 _ _ _ I1.out.2.1).trans rfl
    have d1 : w1.cell? ⟨w.heap.size + 1, 1, none⟩ = some (.int .i64 nb) := (cell_of_row w1 _ 1 _ _ _ I1.out.2.1).trans rfl
    have d2 : w1.cell? ⟨w.heap.size + 1, 2, none⟩ = some (.string sb) := (cell_of_row w1 _ 2 _ _ _ I1.out.2.1).trans rfl
    go_wp2_with fail
    refine (CC.out _).mono ?_
    rintro e w2 ⟨rfl, hb2⟩
    have I2 := Lib.hid (I1.out.below hb2)
    clear hb2
    clear a0 a1 a2 d0 d1 d2
    have a0 : w2.cell? ⟨w.heap.size, 0, none⟩ = some (.int .i64 ka) := (cell_of_row w2 _ 0 _ _ _ I2.out.1).trans rfl
    have a1 : w2.cell? ⟨w.heap.size, 1, none⟩ = some (.int .i64 na) := (cell_of_row w2 _ 1 _ _ _ I2.out.1).trans rfl
    have a2 : w2.cell? ⟨w.heap.size, 2, none⟩ = some (.string sa) := (cell_of_row w2 _ 2 _ _ _ I2.out.1).trans rfl
    have d0 : w2.cell? ⟨w.heap.size + 1, 0, none⟩ = some (.int .i64 kb) := (cell_of_row w2 _ 0 _ _ _ I2.out.2.1).trans rfl
    have d1 : w2.cell? ⟨w.heap.size + 1, 1, none⟩ = some (.int .i64 nb) := (cell_of_row w2 _ 1 _ _ _ I2.out.2.1).trans rfl
    have d2 : w2.cell? ⟨w.heap.size + 1, 2, none⟩ = some (.string sb) := (cell_of_row w2 _ 2 _ _ _ I2.out.2.1).trans rfl
    go_wp2_with fail
    refine (bool_t _ _).mono ?_
    rintro e w3 ⟨rfl, hb3⟩
    have I3 := Lib.hid (I2.out.below hb3)
    clear hb3
    go_wp2_with (refine store23 rfl (.tmp 4) (.tmp 14) rfl (w.heap.size + 2) (boolT (decide (c < 0))) rfl rfl _ I3.out.2.2.1 ?_; intro wz hp; have HP := Lib.hid hp; clear hp)
    exact bodyPost_ret (ret23 rfl rfl HP.out.at') rfl ⟨by rw [HR.out], HP.out.low I3.out.2.2.2 (by omega)⟩

theorem not_t (x : V3) (w : World) : Calls Tryz.prog 36 #[toV x] w fun e w' => e = .returned (toV (thirdT (2 - third x))) ∧ Below w.heap.size w w' := by
  have QT := Lib.hid (fun w => isTrue_t x w)
  have QF := Lib.hid (fun w => isFalse_t x w)
  have HC := third_cases x
  generalize third x = t at QT QF HC ⊢
  obtain ⟨ka, na, sa⟩ := x
  change Calls Tryz.prog 36 #[val ka na sa] w _
  rcases HC with rfl | ⟨rfl, _⟩ | ⟨rfl, _⟩
  · go_enter Tryz.func36, Tryz.ntmps36
    go_wp2_with fail
    refine (QT.out _).mono ?_
    rintro e w1 ⟨rfl, hb1⟩
    have B1 : Hid (w1.heap[w.heap.size]? = some (.cells (cells (ka, na, sa)) 23 (0, 0))) := Lib.hid ((hb1.block _ (by simp only [World.size_alloc]; omega)).trans ((heap_alloc_old _ _ (by simp)).trans (heap_alloc_new w _)))
    have R1 : Hid (w1.heap[w.heap.size + 1]? = some (.cells (cells nullT) 23 (0, 0))) := Lib.hid ((hb1.block _ (by simp)).trans (new_at _ _ _ (by simp)))
    have HL1 := Lib.hid (below_call (w := w) (by go_grown) hb1)
    clear hb1
    have a0 : w1.cell? ⟨w.heap.size, 0, none⟩ = some (.int .i64 ka) := (cell_of_row w1 _ 0 _ _ _ B1.out).trans rfl
    have a1 : w1.cell? ⟨w.heap.size, 1, none⟩ = some (.int .i64 na) := (cell_of_row w1 _ 1 _ _ _ B1.out).trans rfl
    have a2 : w1.cell? ⟨w.heap.size, 2, none⟩ = some (.string sa) := (cell_of_row w1 _ 2 _ _ _ B1.out).trans rfl
    go_wp2_with fail
    refine (QF.out _).mono ?_
    rintro e w2 ⟨rfl, hb2⟩
    have B2 := Lib.hid ((hb2.block _ (lt_of_block B1.out)).trans B1.out)
    have R2 := Lib.hid ((hb2.block _ (lt_of_block R1.out)).trans R1.out)
    have HL2 := Lib.hid (below_call HL1.out hb2)
    clear a0 a1 a2
    clear hb2
    have a0 : w2.cell? ⟨w.heap.size, 0, none⟩ = some (.int .i64 ka) := (cell_of_row w2 _ 0 _ _ _ B2.out).trans rfl
    have a1 : w2.cell? ⟨w.heap.size, 1, none⟩ = some (.int .i64 na) := (cell_of_row w2 _ 1 _ _ _ B2.out).trans rfl
    have a2 : w2.cell? ⟨w.heap.size, 2, none⟩ = some (.string sa) := (cell_of_row w2 _ 2 _ _ _ B2.out).trans rfl
    go_wp2_with (refine store23 rfl (.tmp 2) (.tmp 12) rfl (w.heap.size + 1) (nullT) rfl rfl _ R2.out ?_; intro wz hp; have HP := Lib.hid hp; clear hp)
    exact bodyPost_ret (ret23 rfl rfl HP.out.at') rfl ⟨rfl, HP.out.low HL2.out (by omega)⟩
  · go_enter Tryz.func36, Tryz.ntmps36
    go_wp2_with fail
    refine (QT.out _).mono ?_
    rintro e w1 ⟨rfl, hb1⟩
    have B1 : Hid (w1.heap[w.heap.size]? = some (.cells (cells (ka, na, sa)) 23 (0, 0))) := Lib.hid ((hb1.block _ (by simp only [World.size_alloc]; omega)).trans ((heap_alloc_old _ _ (by simp)).trans (heap_alloc_new w _)))
    have R1 : Hid (w1.heap[w.heap.size + 1]? = some (.cells (cells nullT) 23 (0, 0))) := Lib.hid ((hb1.block _ (by simp)).trans (new_at _ _ _ (by simp)))
    have HL1 := Lib.hid (below_call (w := w) (by go_grown) hb1)
    clear hb1
    have a0 : w1.cell? ⟨w.heap.size, 0, none⟩ = some (.int .i64 ka) := (cell_of_row w1 _ 0 _ _ _ B1.out).trans rfl
    have a1 : w1.cell? ⟨w.heap.size, 1, none⟩ = some (.int .i64 na) := (cell_of_row w1 _ 1 _ _ _ B1.out).trans rfl
    have a2 : w1.cell? ⟨w.heap.size, 2, none⟩ = some (.string sa) := (cell_of_row w1 _ 2 _ _ _ B1.out).trans rfl
    go_wp2_with fail
    refine (QF.out _).mono ?_
    rintro e w2 ⟨rfl, hb2⟩
    have B2 := Lib.hid ((hb2.block _ (lt_of_block B1.out)).trans B1.out)
    have R2 := Lib.hid ((hb2.block _ (lt_of_block R1.out)).trans R1.out)
    have HL2 := Lib.hid (below_call HL1.out hb2)
    clear a0 a1 a2
    clear hb2
    have a0 : w2.cell? ⟨w.heap.size, 0, none⟩ = some (.int .i64 ka) := (cell_of_row w2 _ 0 _ _ _ B2.out).trans rfl
    have a1 : w2.cell? ⟨w.heap.size, 1, none⟩ = some (.int .i64 na) := (cell_of_row w2 _ 1 _ _ _ B2.out).trans rfl
    have a2 : w2.cell? ⟨w.heap.size, 2, none⟩ = some (.string sa) := (cell_of_row w2 _ 2 _ _ _ B2.out).trans rfl
    go_wp2_with fail
    refine (QF.out _).mono ?_
    rintro e w3 ⟨rfl, hb3⟩
    have B3 := Lib.hid ((hb3.block _ (lt_of_block B2.out)).trans B2.out)
    have R3 := Lib.hid ((hb3.block _ (lt_of_block R2.out)).trans R2.out)
    have HL3 := Lib.hid (below_call HL2.out hb3)
    clear a0 a1 a2
    clear hb3
    have a0 : w3.cell? ⟨w.heap.size, 0, none⟩ = some (.int .i64 ka) := (cell_of_row w3 _ 0 _ _ _ B3.out).trans rfl
    have a1 : w3.cell? ⟨w.heap.size, 1, none⟩ = some (.int .i64 na) := (cell_of_row w3 _ 1 _ _ _ B3.out).trans rfl
    have a2 : w3.cell? ⟨w.heap.size, 2, none⟩ = some (.string sa) := (cell_of_row w3 _ 2 _ _ _ B3.out).trans rfl
    go_wp2_with fail
    refine (bool_t _ _).mono ?_
    rintro e w4 ⟨rfl, hb4⟩
    have B4 := Lib.hid ((hb4.block _ (lt_of_block B3.out)).trans B3.out)
    have R4 := Lib.hid ((hb4.block _ (lt_of_block R3.out)).trans R3.out)
    have HL4 := Lib.hid (below_call HL3.out hb4)
    clear a0 a1 a2
    clear hb4
    have a0 : w4.cell? ⟨w.heap.size, 0, none⟩ = some (.int .i64 ka) := (cell_of_row w4 _ 0 _ _ _ B4.out).trans rfl
    have a1 : w4.cell? ⟨w.heap.size, 1, none⟩ = some (.int .i64 na) := (cell_of_row w4 _ 1 _ _ _ B4.out).trans rfl
    have a2 : w4.cell? ⟨w.heap.size, 2, none⟩ = some (.string sa) := (cell_of_row w4 _ 2 _ _ _ B4.out).trans rfl
    go_wp2_with (refine store23 rfl (.tmp 2) (.tmp 11) rfl (w.heap.size + 1) (boolT true) rfl rfl _ R4.out ?_; intro wz hp; have HP := Lib.hid hp; clear hp)
    exact bodyPost_ret (ret23 rfl rfl HP.out.at') rfl ⟨rfl, HP.out.low HL4.out (by omega)⟩
  · go_enter Tryz.func36, Tryz.ntmps36
    go_wp2_with fail
    refine (QT.out _).mono ?_
    rintro e w1 ⟨rfl, hb1⟩
    have B1 : Hid (w1.heap[w.heap.size]? = some (.cells (cells (ka, na, sa)) 23 (0, 0))) := Lib.hid ((hb1.block _ (by simp only [World.size_alloc]; omega)).trans ((heap_alloc_old _ _ (by simp)).trans (heap_alloc_new w _)))
    have R1 : Hid (w1.heap[w.heap.size + 1]? = some (.cells (cells nullT) 23 (0, 0))) := Lib.hid ((hb1.block _ (by simp)).trans (new_at _ _ _ (by simp)))
    have HL1 := Lib.hid (below_call (w := w) (by go_grown) hb1)
    clear hb1
    have a0 : w1.cell? ⟨w.heap.size, 0, none⟩ = some (.int .i64 ka) := (cell_of_row w1 _ 0 _ _ _ B1.out).trans rfl
    have a1 : w1.cell? ⟨w.heap.size, 1, none⟩ = some (.int .i64 na) := (cell_of_row w1 _ 1 _ _ _ B1.out).trans rfl
    have a2 : w1.cell? ⟨w.heap.size, 2, none⟩ = some (.string sa) := (cell_of_row w1 _ 2 _ _ _ B1.out).trans rfl
    go_wp2_with fail
    refine (QF.out _).mono ?_
    rintro e w2 ⟨rfl, hb2⟩
    have B2 := Lib.hid ((hb2.block _ (lt_of_block B1.out)).trans B1.out)
    have R2 := Lib.hid ((hb2.block _ (lt_of_block R1.out)).trans R1.out)
    have HL2 := Lib.hid (below_call HL1.out hb2)
    clear a0 a1 a2
    clear hb2
    have a0 : w2.cell? ⟨w.heap.size, 0, none⟩ = some (.int .i64 ka) := (cell_of_row w2 _ 0 _ _ _ B2.out).trans rfl
    have a1 : w2.cell? ⟨w.heap.size, 1, none⟩ = some (.int .i64 na) := (cell_of_row w2 _ 1 _ _ _ B2.out).trans rfl
    have a2 : w2.cell? ⟨w.heap.size, 2, none⟩ = some (.string sa) := (cell_of_row w2 _ 2 _ _ _ B2.out).trans rfl
    go_wp2_with fail
    refine (bool_t _ _).mono ?_
    rintro e w3 ⟨rfl, hb3⟩
    have B3 := Lib.hid ((hb3.block _ (lt_of_block B2.out)).trans B2.out)
    have R3 := Lib.hid ((hb3.block _ (lt_of_block R2.out)).trans R2.out)
    have HL3 := Lib.hid (below_call HL2.out hb3)
    clear a0 a1 a2
    clear hb3
    have a0 : w3.cell? ⟨w.heap.size, 0, none⟩ = some (.int .i64 ka) := (cell_of_row w3 _ 0 _ _ _ B3.out).trans rfl
    have a1 : w3.cell? ⟨w.heap.size, 1, none⟩ = some (.int .i64 na) := (cell_of_row w3 _ 1 _ _ _ B3.out).trans rfl
    have a2 : w3.cell? ⟨w.heap.size, 2, none⟩ = some (.string sa) := (cell_of_row w3 _ 2 _ _ _ B3.out).trans rfl
    go_wp2_with (refine store23 rfl (.tmp 2) (.tmp 11) rfl (w.heap.size + 1) (boolT false) rfl rfl _ R3.out ?_; intro wz hp; have HP := Lib.hid hp; clear hp)
    exact bodyPost_ret (ret23 rfl rfl HP.out.at') rfl ⟨rfl, HP.out.low HL3.out (by omega)⟩
end YtabojeleomfgnaaGreatDoor
end Go.Proofs
