/- Add, Sub, Div, Mod, Neg, Mul. -/
import Derived.Test.YtabojeleomfgnaaGreatDoorNu1
import Derived.Test.YtabojeleomfgnaaGreatDoorLg4
namespace Go.Proofs
open Go.RowKit
namespace YtabojeleomfgnaaGreatDoor
set_option maxRecDepth 100000
/-! what the operations give, of values that are right -/
def addT (X Y : V3) : V3 := if okB X Y 2 2 = true then numT 2 (wrap64 (X.2.1 + Y.2.1)) else if okB X Y 4 2 = true then numT 4 (wrap64 (X.2.1 + Y.2.1)) else nullT
def subT (X Y : V3) : V3 := if okB X Y 2 2 = true then numT 2 (wrap64 (X.2.1 - Y.2.1)) else if okB X Y 4 2 = true then numT 4 (wrap64 (X.2.1 - Y.2.1)) else if okB X Y 4 4 = true then numT 2 (wrap64 (X.2.1 - Y.2.1)) else nullT
def divT (X Y : V3) : V3 := if okB X Y 2 2 = true then if (Y.2.1 == 0) = true then nullT else numT 2 (fdiv X.2.1 Y.2.1) else nullT
def modT (X Y : V3) : V3 := if okB X Y 2 2 = true then if (Y.2.1 == 0) = true then nullT else numT 2 (wrap64 (X.2.1 - wrap64 (Y.2.1 * fdiv X.2.1 Y.2.1))) else nullT
def bigB (x y : Int) : Bool := decide (999999999999999 < x.natAbs * y.natAbs)
def mulT (X Y : V3) : V3 := if okB X Y 2 2 = true then if bigB X.2.1 Y.2.1 = true then nullT else numT 2 (wrap64 (X.2.1 * Y.2.1)) else nullT
def negT (X : V3) : V3 := if (X.1 != 2) = true then nullT else numT 2 (wrap64 (-X.2.1))
set_option maxHeartbeats 2000000 in
theorem add_t (x y : V3) (hx : Sz x) (hy : Sz y) (w : World) : Calls Tryz.prog 43 #[toV x, toV y] w fun e w' => e = .returned (toV (addT (clT x) (clT y))) ∧ Below w.heap.size w w' := by
  have A0 : Hid (∀ k l w, Calls Tryz.prog 122 #[toV x, .int .i64 k, toV y, .int .i64 l] w fun e w' => e = .returned (.tuple #[.int .i64 (onlyIf (okB (clT x) (clT y) k l) (clT x).2.1), .int .i64 (onlyIf (okB (clT x) (clT y) k l) (clT y).2.1), .bool (okB (clT x) (clT y) k l)]) ∧ Below w.heap.size w w') := Lib.hid (fun k l w => numbers_t x y k l hx hy w)
  have C22 := Lib.hid (A0.out 2 2)
  have C42 := Lib.hid (A0.out 4 2)
  clear A0 hx hy
  have HR : Hid (addT (clT x) (clT y) = addT (clT x) (clT y)) := Lib.hid rfl
  have RX := Lib.hid (clT_right x)
  have RY := Lib.hid (clT_right y)
  generalize clT x = X at *
  generalize clT y = Y at *
  obtain ⟨K, n, s⟩ := X
  obtain ⟨K', m, t⟩ := Y
  cases h22 : okB (K, n, s) (K', m, t) 2 2 with
  | true =>
    have HE : Hid (addT (K, n, s) (K', m, t) = numT 2 (wrap64 (n + m))) := Lib.hid (by unfold addT; rw [h22]; rfl)
    generalize addT (K, n, s) (K', m, t) = R at HE ⊢
    clear HR RX RY
    obtain ⟨ka, na, sa⟩ := x
    obtain ⟨kb, nb, sb⟩ := y
    have D22 : Hid (∀ w, Calls Tryz.prog 122 #[val ka na sa, .int .i64 2, val kb nb sb, .int .i64 2] w fun e w' => e = .returned (.tuple #[.int .i64 n, .int .i64 m, .bool true]) ∧ Below w.heap.size w w') := by rw [h22] at C22; exact C22
    clear C22
    clear C42
    clear h22
    change Calls Tryz.prog 43 #[val ka na sa, val kb nb sb] w _
    have I0 : Hid (In3 (ka, na, sa) (kb, nb, sb) w (((w.alloc (.cells #[.int .i64 ka, .int .i64 na, .string sa] 23)).alloc (.cells #[.int .i64 kb, .int .i64 nb, .string sb] 23)).alloc (.cells #[.int .i64 0, .int .i64 0, .string ⟨#[]⟩] 23))) := Lib.hid ⟨(heap_alloc_old _ _ (by simp only [World.size_alloc]; omega)).trans ((heap_alloc_old _ _ (by simp)).trans (heap_alloc_new w _)), (heap_alloc_old _ _ (by simp)).trans (new_at _ _ _ (by simp)), new_at _ _ _ (by simp), by go_grown⟩
    go_enter Tryz.func43, Tryz.ntmps43
    go_wp2_with fail
    refine (D22.out _).mono ?_
    rintro e w1 ⟨rfl, hb1⟩
    have I1 := Lib.hid (I0.out.below hb1)
    clear hb1
    have a0 : w1.cell? ⟨w.heap.size, 0, none⟩ = some (.int .i64 ka) := (cell_of_row w1 _ 0 _ _ _ I1.out.1).trans rfl
    have a1 : w1.cell? ⟨w.heap.size, 1, none⟩ = some (.int .i64 na) := (cell_of_row w1 _ 1 _ _ _ I1.out.1).trans rfl
    have a2 : w1.cell? ⟨w.heap.size, 2, none⟩ = some (.string sa) := (cell_of_row w1 _ 2 _ _ _ I1.out.1).trans rfl
    have d0 : w1.cell? ⟨w.heap.size + 1, 0, none⟩ = some (.int .i64 kb) := (cell_of_row w1 _ 0 _ _ _ I1.out.2.1).trans rfl
    have d1 : w1.cell? ⟨w.heap.size + 1, 1, none⟩ = some (.int .i64 nb) := (cell_of_row w1 _ 1 _ _ _ I1.out.2.1).trans rfl
    have d2 : w1.cell? ⟨w.heap.size + 1, 2, none⟩ = some (.string sb) := (cell_of_row w1 _ 2 _ _ _ I1.out.2.1).trans rfl
    go_wp2_with fail
    refine (number_t _ _ _).mono ?_
    rintro e w2 ⟨rfl, hb2⟩
    have I2 := Lib.hid (I1.out.below hb2)
    clear hb2
    go_wp2_with (refine store23 rfl (.tmp 4) (.tmp 22) rfl (w.heap.size + 2) (numT 2 (wrap64 (n + m))) rfl rfl _ I2.out.2.2.1 ?_; intro wz hp; have HP := Lib.hid hp; clear hp)
    exact bodyPost_ret (ret23 rfl rfl HP.out.at') rfl ⟨by rw [HE.out], HP.out.low I2.out.2.2.2 (by omega)⟩
  | false =>
    cases h42 : okB (K, n, s) (K', m, t) 4 2 with
    | true =>
      have HE : Hid (addT (K, n, s) (K', m, t) = numT 4 (wrap64 (n + m))) := Lib.hid (by unfold addT; rw [h22, h42]; rfl)
      generalize addT (K, n, s) (K', m, t) = R at HE ⊢
      clear HR RX RY
      obtain ⟨ka, na, sa⟩ := x
      obtain ⟨kb, nb, sb⟩ := y
      have D22 : Hid (∀ w, Calls Tryz.prog 122 #[val ka na sa, .int .i64 2, val kb nb sb, .int .i64 2] w fun e w' => e = .returned (.tuple #[.int .i64 0, .int .i64 0, .bool false]) ∧ Below w.heap.size w w') := by rw [h22] at C22; exact C22
      clear C22
      have D42 : Hid (∀ w, Calls Tryz.prog 122 #[val ka na sa, .int .i64 4, val kb nb sb, .int .i64 2] w fun e w' => e = .returned (.tuple #[.int .i64 n, .int .i64 m, .bool true]) ∧ Below w.heap.size w w') := by rw [h42] at C42; exact C42
      clear C42
      clear h22 h42
      change Calls Tryz.prog 43 #[val ka na sa, val kb nb sb] w _
      have I0 : Hid (In3 (ka, na, sa) (kb, nb, sb) w (((w.alloc (.cells #[.int .i64 ka, .int .i64 na, .string sa] 23)).alloc (.cells #[.int .i64 kb, .int .i64 nb, .string sb] 23)).alloc (.cells #[.int .i64 0, .int .i64 0, .string ⟨#[]⟩] 23))) := Lib.hid ⟨(heap_alloc_old _ _ (by simp only [World.size_alloc]; omega)).trans ((heap_alloc_old _ _ (by simp)).trans (heap_alloc_new w _)), (heap_alloc_old _ _ (by simp)).trans (new_at _ _ _ (by simp)), new_at _ _ _ (by simp), by go_grown⟩
      go_enter Tryz.func43, Tryz.ntmps43
      go_wp2_with fail
      refine (D22.out _).mono ?_
      rintro e w1 ⟨rfl, hb1⟩
      have I1 := Lib.hid (I0.out.below hb1)
      clear hb1
      have a0 : w1.cell? ⟨w.heap.size, 0, none⟩ = some (.int .i64 ka) := (cell_of_row w1 _ 0 _ _ _ I1.out.1).trans rfl
      have a1 : w1.cell? ⟨w.heap.size, 1, none⟩ = some (.int .i64 na) := (cell_of_row w1 _ 1 _ _ _ I1.out.1).trans rfl
      have a2 : w1.cell? ⟨w.heap.size, 2, none⟩ = some (.string sa) := (cell_of_row w1 _ 2 _ _ _ I1.out.1).trans rfl
      have d0 : w1.cell? ⟨w.heap.size + 1, 0, none⟩ = some (.int .i64 kb) := (cell_of_row w1 _ 0 _ _ _ I1.out.2.1).trans rfl
      have d1 : w1.cell? ⟨w.heap.size + 1, 1, none⟩ = some (.int .i64 nb) := (cell_of_row w1 _ 1 _ _ _ I1.out.2.1).trans rfl
      have d2 : w1.cell? ⟨w.heap.size + 1, 2, none⟩ = some (.string sb) := (cell_of_row w1 _ 2 _ _ _ I1.out.2.1).trans rfl
      go_wp2_with fail
      refine (D42.out _).mono ?_
      rintro e w2 ⟨rfl, hb2⟩
      have I2 := Lib.hid (I1.out.below hb2)
      clear hb2
      clear a0 a1 a2 d0 d1 d2
      have a0 : w2.cell? ⟨w.heap.size, 0, none⟩ = some (.int .i64 ka) := (cell_of_row w2 _ 0 _ _ _ I2.out.1).trans rfl
      have a1 : w2.cell? ⟨w.heap.size, 1, none⟩ = some (.int .i64 na) := (cell_of_row w2 _ 1 _ _ _ I2.out.1).trans rfl
      have a2 : w2.cell? ⟨w.heap.size, 2, none⟩ = some (.string sa) := (cell_of_row w2 _ 2 _ _ _ I2.out.1).trans rfl
      have d0 : w2.cell? ⟨w.heap.size + 1, 0, none⟩ = some (.int .i64 kb) := (cell_of_row w2 _ 0 _ _ _ I2.out.2.1).trans rfl
      have d1 : w2.cell? ⟨w.heap.size + 1, 1, none⟩ = some (.int .i64 nb) := (cell_of_row w2 _ 1 _ _ _ I2.out.2.1).trans rfl
      have d2 : w2.cell? ⟨w.heap.size + 1, 2, none⟩ = some (.string sb) := (cell_of_row w2 _ 2 _ _ _ I2.out.2.1).trans rfl
      go_wp2_with fail
      refine (number_t _ _ _).mono ?_
      rintro e w3 ⟨rfl, hb3⟩
      have I3 := Lib.hid (I2.out.below hb3)
      clear hb3
      go_wp2_with (refine store23 rfl (.tmp 4) (.tmp 34) rfl (w.heap.size + 2) (numT 4 (wrap64 (n + m))) rfl rfl _ I3.out.2.2.1 ?_; intro wz hp; have HP := Lib.hid hp; clear hp)
      exact bodyPost_ret (ret23 rfl rfl HP.out.at') rfl ⟨by rw [HE.out], HP.out.low I3.out.2.2.2 (by omega)⟩
    | false =>
      have HE : Hid (addT (K, n, s) (K', m, t) = nullT) := Lib.hid (by unfold addT; rw [h22, h42]; rfl)
      generalize addT (K, n, s) (K', m, t) = R at HE ⊢
      clear HR RX RY
      obtain ⟨ka, na, sa⟩ := x
      obtain ⟨kb, nb, sb⟩ := y
      have D22 : Hid (∀ w, Calls Tryz.prog 122 #[val ka na sa, .int .i64 2, val kb nb sb, .int .i64 2] w fun e w' => e = .returned (.tuple #[.int .i64 0, .int .i64 0, .bool false]) ∧ Below w.heap.size w w') := by rw [h22] at C22; exact C22
      clear C22
      have D42 : Hid (∀ w, Calls Tryz.prog 122 #[val ka na sa, .int .i64 4, val kb nb sb, .int .i64 2] w fun e w' => e = .returned (.tuple #[.int .i64 0, .int .i64 0, .bool false]) ∧ Below w.heap.size w w') := by rw [h42] at C42; exact C42
      clear C42
      clear h22 h42
      change Calls Tryz.prog 43 #[val ka na sa, val kb nb sb] w _
      have I0 : Hid (In3 (ka, na, sa) (kb, nb, sb) w (((w.alloc (.cells #[.int .i64 ka, .int .i64 na, .string sa] 23)).alloc (.cells #[.int .i64 kb, .int .i64 nb, .string sb] 23)).alloc (.cells #[.int .i64 0, .int .i64 0, .string ⟨#[]⟩] 23))) := Lib.hid ⟨(heap_alloc_old _ _ (by simp only [World.size_alloc]; omega)).trans ((heap_alloc_old _ _ (by simp)).trans (heap_alloc_new w _)), (heap_alloc_old _ _ (by simp)).trans (new_at _ _ _ (by simp)), new_at _ _ _ (by simp), by go_grown⟩
      go_enter Tryz.func43, Tryz.ntmps43
      go_wp2_with fail
      refine (D22.out _).mono ?_
      rintro e w1 ⟨rfl, hb1⟩
      have I1 := Lib.hid (I0.out.below hb1)
      clear hb1
      have a0 : w1.cell? ⟨w.heap.size, 0, none⟩ = some (.int .i64 ka) := (cell_of_row w1 _ 0 _ _ _ I1.out.1).trans rfl
      have a1 : w1.cell? ⟨w.heap.size, 1, none⟩ = some (.int .i64 na) := (cell_of_row w1 _ 1 _ _ _ I1.out.1).trans rfl
      have a2 : w1.cell? ⟨w.heap.size, 2, none⟩ = some (.string sa) := (cell_of_row w1 _ 2 _ _ _ I1.out.1).trans rfl
      have d0 : w1.cell? ⟨w.heap.size + 1, 0, none⟩ = some (.int .i64 kb) := (cell_of_row w1 _ 0 _ _ _ I1.out.2.1).trans rfl
      have d1 : w1.cell? ⟨w.heap.size + 1, 1, none⟩ = some (.int .i64 nb) := (cell_of_row w1 _ 1 _ _ _ I1.out.2.1).trans rfl
      have d2 : w1.cell? ⟨w.heap.size + 1, 2, none⟩ = some (.string sb) := (cell_of_row w1 _ 2 _ _ _ I1.out.2.1).trans rfl
      go_wp2_with fail
      refine (D42.out _).mono ?_
      rintro e w2 ⟨rfl, hb2⟩
      have I2 := Lib.hid (I1.out.below hb2)
      clear hb2
      clear a0 a1 a2 d0 d1 d2
      have a0 : w2.cell? ⟨w.heap.size, 0, none⟩ = some (.int .i64 ka) := (cell_of_row w2 _ 0 _ _ _ I2.out.1).trans rfl
      have a1 : w2.cell? ⟨w.heap.size, 1, none⟩ = some (.int .i64 na) := (cell_of_row w2 _ 1 _ _ _ I2.out.1).trans rfl
      have a2 : w2.cell? ⟨w.heap.size, 2, none⟩ = some (.string sa) := (cell_of_row w2 _ 2 _ _ _ I2.out.1).trans rfl
      have d0 : w2.cell? ⟨w.heap.size + 1, 0, none⟩ = some (.int .i64 kb) := (cell_of_row w2 _ 0 _ _ _ I2.out.2.1).trans rfl
      have d1 : w2.cell? ⟨w.heap.size + 1, 1, none⟩ = some (.int .i64 nb) := (cell_of_row w2 _ 1 _ _ _ I2.out.2.1).trans rfl
      have d2 : w2.cell? ⟨w.heap.size + 1, 2, none⟩ = some (.string sb) := (cell_of_row w2 _ 2 _ _ _ I2.out.2.1).trans rfl
      go_wp2_with (refine store23 rfl (.tmp 4) (.tmp 35) rfl (w.heap.size + 2) (nullT) rfl rfl _ I2.out.2.2.1 ?_; intro wz hp; have HP := Lib.hid hp; clear hp)
      exact bodyPost_ret (ret23 rfl rfl HP.out.at') rfl ⟨by rw [HE.out], HP.out.low I2.out.2.2.2 (by omega)⟩
set_option maxHeartbeats 2000000 in
theorem sub_t (x y : V3) (hx : Sz x) (hy : Sz y) (w : World) : Calls Tryz.prog 44 #[toV x, toV y] w fun e w' => e = .returned (toV (subT (clT x) (clT y))) ∧ Below w.heap.size w w' := by
  have A0 : Hid (∀ k l w, Calls Tryz.prog 122 #[toV x, .int .i64 k, toV y, .int .i64 l] w fun e w' => e = .returned (.tuple #[.int .i64 (onlyIf (okB (clT x) (clT y) k l) (clT x).2.1), .int .i64 (onlyIf (okB (clT x) (clT y) k l) (clT y).2.1), .bool (okB (clT x) (clT y) k l)]) ∧ Below w.heap.size w w') := Lib.hid (fun k l w => numbers_t x y k l hx hy w)
  have C22 := Lib.hid (A0.out 2 2)
  have C42 := Lib.hid (A0.out 4 2)
  have C44 := Lib.hid (A0.out 4 4)
  clear A0 hx hy
  have HR : Hid (subT (clT x) (clT y) = subT (clT x) (clT y)) := Lib.hid rfl
  have RX := Lib.hid (clT_right x)
  have RY := Lib.hid (clT_right y)
  generalize clT x = X at *
  generalize clT y = Y at *
  obtain ⟨K, n, s⟩ := X
  obtain ⟨K', m, t⟩ := Y
  cases h22 : okB (K, n, s) (K', m, t) 2 2 with
  | true =>
    have HE : Hid (subT (K, n, s) (K', m, t) = numT 2 (wrap64 (n - m))) := Lib.hid (by unfold subT; rw [h22]; rfl)
    generalize subT (K, n, s) (K', m, t) = R at HE ⊢
    clear HR RX RY
    obtain ⟨ka, na, sa⟩ := x
    obtain ⟨kb, nb, sb⟩ := y
    have D22 : Hid (∀ w, Calls Tryz.prog 122 #[val ka na sa, .int .i64 2, val kb nb sb, .int .i64 2] w fun e w' => e = .returned (.tuple #[.int .i64 n, .int .i64 m, .bool true]) ∧ Below w.heap.size w w') := by rw [h22] at C22; exact C22
    clear C22
    clear C42
    clear C44
    clear h22
    change Calls Tryz.prog 44 #[val ka na sa, val kb nb sb] w _
    have I0 : Hid (In3 (ka, na, sa) (kb, nb, sb) w (((w.alloc (.cells #[.int .i64 ka, .int .i64 na, .string sa] 23)).alloc (.cells #[.int .i64 kb, .int .i64 nb, .string sb] 23)).alloc (.cells #[.int .i64 0, .int .i64 0, .string ⟨#[]⟩] 23))) := Lib.hid ⟨(heap_alloc_old _ _ (by simp only [World.size_alloc]; omega)).trans ((heap_alloc_old _ _ (by simp)).trans (heap_alloc_new w _)), (heap_alloc_old _ _ (by simp)).trans (new_at _ _ _ (by simp)), new_at _ _ _ (by simp), by go_grown⟩
    go_enter Tryz.func44, Tryz.ntmps44
    go_wp2_with fail
    refine (D22.out _).mono ?_
    rintro e w1 ⟨rfl, hb1⟩
    have I1 := Lib.hid (I0.out.below hb1)
    clear hb1
    have a0 : w1.cell? ⟨w.heap.size, 0, none⟩ = some (.int .i64 ka) := (cell_of_row w1 _ 0 _ _ _ I1.out.1).trans rfl
    have a1 : w1.cell? ⟨w.heap.size, 1, none⟩ = some (.int .i64 na) := (cell_of_row w1 _ 1 _ _ _ I1.out.1).trans rfl
    have a2 : w1.cell? ⟨w.heap.size, 2, none⟩ = some (.string sa) := (cell_of_row w1 _ 2 _ _ _ I1.out.1).trans rfl
    have d0 : w1.cell? ⟨w.heap.size + 1, 0, none⟩ = some (.int .i64 kb) := (cell_of_row w1 _ 0 _ _ _ I1.out.2.1).trans rfl
    have d1 : w1.cell? ⟨w.heap.size + 1, 1, none⟩ = some (.int .i64 nb) := (cell_of_row w1 _ 1 _ _ _ I1.out.2.1).trans rfl
    have d2 : w1.cell? ⟨w.heap.size + 1, 2, none⟩ = some (.string sb) := (cell_of_row w1 _ 2 _ _ _ I1.out.2.1).trans rfl
    go_wp2_with fail
    refine (number_t _ _ _).mono ?_
    rintro e w2 ⟨rfl, hb2⟩
    have I2 := Lib.hid (I1.out.below hb2)
    clear hb2
    go_wp2_with (refine store23 rfl (.tmp 4) (.tmp 25) rfl (w.heap.size + 2) (numT 2 (wrap64 (n - m))) rfl rfl _ I2.out.2.2.1 ?_; intro wz hp; have HP := Lib.hid hp; clear hp)
    exact bodyPost_ret (ret23 rfl rfl HP.out.at') rfl ⟨by rw [HE.out], HP.out.low I2.out.2.2.2 (by omega)⟩
  | false =>
    cases h42 : okB (K, n, s) (K', m, t) 4 2 with
    | true =>
      have HE : Hid (subT (K, n, s) (K', m, t) = numT 4 (wrap64 (n - m))) := Lib.hid (by unfold subT; rw [h22, h42]; rfl)
      generalize subT (K, n, s) (K', m, t) = R at HE ⊢
      clear HR RX RY
      obtain ⟨ka, na, sa⟩ := x
      obtain ⟨kb, nb, sb⟩ := y
      have D22 : Hid (∀ w, Calls Tryz.prog 122 #[val ka na sa, .int .i64 2, val kb nb sb, .int .i64 2] w fun e w' => e = .returned (.tuple #[.int .i64 0, .int .i64 0, .bool false]) ∧ Below w.heap.size w w') := by rw [h22] at C22; exact C22
      clear C22
      have D42 : Hid (∀ w, Calls Tryz.prog 122 #[val ka na sa, .int .i64 4, val kb nb sb, .int .i64 2] w fun e w' => e = .returned (.tuple #[.int .i64 n, .int .i64 m, .bool true]) ∧ Below w.heap.size w w') := by rw [h42] at C42; exact C42
      clear C42
      clear C44
      clear h22 h42
      change Calls Tryz.prog 44 #[val ka na sa, val kb nb sb] w _
      have I0 : Hid (In3 (ka, na, sa) (kb, nb, sb) w (((w.alloc (.cells #[.int .i64 ka, .int .i64 na, .string sa] 23)).alloc (.cells #[.int .i64 kb, .int .i64 nb, .string sb] 23)).alloc (.cells #[.int .i64 0, .int .i64 0, .string ⟨#[]⟩] 23))) := Lib.hid ⟨(heap_alloc_old _ _ (by simp only [World.size_alloc]; omega)).trans ((heap_alloc_old _ _ (by simp)).trans (heap_alloc_new w _)), (heap_alloc_old _ _ (by simp)).trans (new_at _ _ _ (by simp)), new_at _ _ _ (by simp), by go_grown⟩
      go_enter Tryz.func44, Tryz.ntmps44
      go_wp2_with fail
      refine (D22.out _).mono ?_
      rintro e w1 ⟨rfl, hb1⟩
      have I1 := Lib.hid (I0.out.below hb1)
      clear hb1
      have a0 : w1.cell? ⟨w.heap.size, 0, none⟩ = some (.int .i64 ka) := (cell_of_row w1 _ 0 _ _ _ I1.out.1).trans rfl
      have a1 : w1.cell? ⟨w.heap.size, 1, none⟩ = some (.int .i64 na) := (cell_of_row w1 _ 1 _ _ _ I1.out.1).trans rfl
      have a2 : w1.cell? ⟨w.heap.size, 2, none⟩ = some (.string sa) := (cell_of_row w1 _ 2 _ _ _ I1.out.1).trans rfl
      have d0 : w1.cell? ⟨w.heap.size + 1, 0, none⟩ = some (.int .i64 kb) := (cell_of_row w1 _ 0 _ _ _ I1.out.2.1).trans rfl
      have d1 : w1.cell? ⟨w.heap.size + 1, 1, none⟩ = some (.int .i64 nb) := (cell_of_row w1 _ 1 _ _ _ I1.out.2.1).trans rfl
      have d2 : w1.cell? ⟨w.heap.size + 1, 2, none⟩ = some (.string sb) := (cell_of_row w1 _ 2 _ _ _ I1.out.2.1).trans rfl
      go_wp2_with fail
      refine (D42.out _).mono ?_
      rintro e w2 ⟨rfl, hb2⟩
      have I2 := Lib.hid (I1.out.below hb2)
      clear hb2
      clear a0 a1 a2 d0 d1 d2
      have a0 : w2.cell? ⟨w.heap.size, 0, none⟩ = some (.int .i64 ka) := (cell_of_row w2 _ 0 _ _ _ I2.out.1).trans rfl
      have a1 : w2.cell? ⟨w.heap.size, 1, none⟩ = some (.int .i64 na) := (cell_of_row w2 _ 1 _ _ _ I2.out.1).trans rfl
      have a2 : w2.cell? ⟨w.heap.size, 2, none⟩ = some (.string sa) := (cell_of_row w2 _ 2 _ _ _ I2.out.1).trans rfl
      have d0 : w2.cell? ⟨w.heap.size + 1, 0, none⟩ = some (.int .i64 kb) := (cell_of_row w2 _ 0 _ _ _ I2.out.2.1).trans rfl
      have d1 : w2.cell? ⟨w.heap.size + 1, 1, none⟩ = some (.int .i64 nb) := (cell_of_row w2 _ 1 _ _ _ I2.out.2.1).trans rfl
      have d2 : w2.cell? ⟨w.heap.size + 1, 2, none⟩ = some (.string sb) := (cell_of_row w2 _ 2 _ _ _ I2.out.2.1).trans rfl
      go_wp2_with fail
      refine (number_t _ _ _).mono ?_
      rintro e w3 ⟨rfl, hb3⟩
      have I3 := Lib.hid (I2.out.below hb3)
      clear hb3
      go_wp2_with (refine store23 rfl (.tmp 4) (.tmp 37) rfl (w.heap.size + 2) (numT 4 (wrap64 (n - m))) rfl rfl _ I3.out.2.2.1 ?_; intro wz hp; have HP := Lib.hid hp; clear hp)
      exact bodyPost_ret (ret23 rfl rfl HP.out.at') rfl ⟨by rw [HE.out], HP.out.low I3.out.2.2.2 (by omega)⟩
    | false =>
      cases h44 : okB (K, n, s) (K', m, t) 4 4 with
      | true =>
        have HE : Hid (subT (K, n, s) (K', m, t) = numT 2 (wrap64 (n - m))) := Lib.hid (by unfold subT; rw [h22, h42, h44]; rfl)
        generalize subT (K, n, s) (K', m, t) = R at HE ⊢
        clear HR RX RY
        obtain ⟨ka, na, sa⟩ := x
        obtain ⟨kb, nb, sb⟩ := y
        have D22 : Hid (∀ w, Calls Tryz.prog 122 #[val ka na sa, .int .i64 2, val kb nb sb, .int .i64 2] w fun e w' => e = .returned (.tuple #[.int .i64 0, .int .i64 0, .bool false]) ∧ Below w.heap.size w w') := by rw [h22] at C22; exact C22
        clear C22
        have D42 : Hid (∀ w, Calls Tryz.prog 122 #[val ka na sa, .int .i64 4, val kb nb sb, .int .i64 2] w fun e w' => e = .returned (.tuple #[.int .i64 0, .int .i64 0, .bool false]) ∧ Below w.heap.size w w') := by rw [h42] at C42; exact C42
        clear C42
        have D44 : Hid (∀ w, Calls Tryz.prog 122 #[val ka na sa, .int .i64 4, val kb nb sb, .int .i64 4] w fun e w' => e = .returned (.tuple #[.int .i64 n, .int .i64 m, .bool true]) ∧ Below w.heap.size w w') := by rw [h44] at C44; exact C44
        clear C44
        clear h22 h42 h44
        change Calls Tryz.prog 44 #[val ka na sa, val kb nb sb] w _
        have I0 : Hid (In3 (ka, na, sa) (kb, nb, sb) w (((w.alloc (.cells #[.int .i64 ka, .int .i64 na, .string sa] 23)).alloc (.cells #[.int .i64 kb, .int .i64 nb, .string sb] 23)).alloc (.cells #[.int .i64 0, .int .i64 0, .string ⟨#[]⟩] 23))) := Lib.hid ⟨(heap_alloc_old _ _ (by simp only [World.size_alloc]; omega)).trans ((heap_alloc_old _ _ (by simp)).trans (heap_alloc_new w _)), (heap_alloc_old _ _ (by simp)).trans (new_at _ _ _ (by simp)), new_at _ _ _ (by simp), by go_grown⟩
        go_enter Tryz.func44, Tryz.ntmps44
        go_wp2_with fail
        refine (D22.out _).mono ?_
        rintro e w1 ⟨rfl, hb1⟩
        have I1 := Lib.hid (I0.out.below hb1)
        clear hb1
        have a0 : w1.cell? ⟨w.heap.size, 0, none⟩ = some (.int .i64 ka) := (cell_of_row w1 _ 0 _ _ _ I1.out.1).trans rfl
        have a1 : w1.cell? ⟨w.heap.size, 1, none⟩ = some (.int .i64 na) := (cell_of_row w1 _ 1 _ _ _ I1.out.1).trans rfl
        have a2 : w1.cell? ⟨w.heap.size, 2, none⟩ = some (.string sa) := (cell_of_row w1 _ 2 _ _ _ I1.out.1).trans rfl
        have d0 : w1.cell? ⟨w.heap.size + 1, 0, none⟩ = some (.int .i64 kb) := (cell_of_row w1 _ 0 _ _ _ I1.out.2.1).trans rfl
        have d1 : w1.cell? ⟨w.heap.size + 1, 1, none⟩ = some (.int .i64 nb) := (cell_of_row w1 _ 1 _ _ _ I1.out.2.1).trans rfl
        have d2 : w1.cell? ⟨w.heap.size + 1, 2, none⟩ = some (.string sb) := (cell_of_row w1 _ 2 _ _ _ I1.out.2.1).trans rfl
        go_wp2_with fail
        refine (D42.out _).mono ?_
        rintro e w2 ⟨rfl, hb2⟩
        have I2 := Lib.hid (I1.out.below hb2)
        clear hb2
        clear a0 a1 a2 d0 d1 d2
        have a0 : w2.cell? ⟨w.heap.size, 0, none⟩ = some (.int .i64 ka) := (cell_of_row w2 _ 0 _ _ _ I2.out.1).trans rfl
        have a1 : w2.cell? ⟨w.heap.size, 1, none⟩ = some (.int .i64 na) := (cell_of_row w2 _ 1 _ _ _ I2.out.1).trans rfl
        have a2 : w2.cell? ⟨w.heap.size, 2, none⟩ = some (.string sa) := (cell_of_row w2 _ 2 _ _ _ I2.out.1).trans rfl
        have d0 : w2.cell? ⟨w.heap.size + 1, 0, none⟩ = some (.int .i64 kb) := (cell_of_row w2 _ 0 _ _ _ I2.out.2.1).trans rfl
        have d1 : w2.cell? ⟨w.heap.size + 1, 1, none⟩ = some (.int .i64 nb) := (cell_of_row w2 _ 1 _ _ _ I2.out.2.1).trans rfl
        have d2 : w2.cell? ⟨w.heap.size + 1, 2, none⟩ = some (.string sb) := (cell_of_row w2 _ 2 _ _ _ I2.out.2.1).trans rfl
        go_wp2_with fail
        refine (D44.out _).mono ?_
        rintro e w3 ⟨rfl, hb3⟩
        have I3 := Lib.hid (I2.out.below hb3)
        clear hb3
        clear a0 a1 a2 d0 d1 d2
        have a0 : w3.cell? ⟨w.heap.size, 0, none⟩ = some (.int .i64 ka) := (cell_of_row w3 _ 0 _ _ _ I3.out.1).trans rfl
        have a1 : w3.cell? ⟨w.heap.size, 1, none⟩ = some (.int .i64 na) := (cell_of_row w3 _ 1 _ _ _ I3.out.1).trans rfl
        have a2 : w3.cell? ⟨w.heap.size, 2, none⟩ = some (.string sa) := (cell_of_row w3 _ 2 _ _ _ I3.out.1).trans rfl
        have d0 : w3.cell? ⟨w.heap.size + 1, 0, none⟩ = some (.int .i64 kb) := (cell_of_row w3 _ 0 _ _ _ I3.out.2.1).trans rfl
        have d1 : w3.cell? ⟨w.heap.size + 1, 1, none⟩ = some (.int .i64 nb) := (cell_of_row w3 _ 1 _ _ _ I3.out.2.1).trans rfl
        have d2 : w3.cell? ⟨w.heap.size + 1, 2, none⟩ = some (.string sb) := (cell_of_row w3 _ 2 _ _ _ I3.out.2.1).trans rfl
        go_wp2_with fail
        refine (number_t _ _ _).mono ?_
        rintro e w4 ⟨rfl, hb4⟩
        have I4 := Lib.hid (I3.out.below hb4)
        clear hb4
        go_wp2_with (refine store23 rfl (.tmp 4) (.tmp 49) rfl (w.heap.size + 2) (numT 2 (wrap64 (n - m))) rfl rfl _ I4.out.2.2.1 ?_; intro wz hp; have HP := Lib.hid hp; clear hp)
        exact bodyPost_ret (ret23 rfl rfl HP.out.at') rfl ⟨by rw [HE.out], HP.out.low I4.out.2.2.2 (by omega)⟩
      | false =>
        have HE : Hid (subT (K, n, s) (K', m, t) = nullT) := Lib.hid (by unfold subT; rw [h22, h42, h44]; rfl)
        generalize subT (K, n, s) (K', m, t) = R at HE ⊢
        clear HR RX RY
        obtain ⟨ka, na, sa⟩ := x
        obtain ⟨kb, nb, sb⟩ := y
        have D22 : Hid (∀ w, Calls Tryz.prog 122 #[val ka na sa, .int .i64 2, val kb nb sb, .int .i64 2] w fun e w' => e = .returned (.tuple #[.int .i64 0, .int .i64 0, .bool false]) ∧ Below w.heap.size w w') := by rw [h22] at C22; exact C22
        clear C22
        have D42 : Hid (∀ w, Calls Tryz.prog 122 #[val ka na sa, .int .i64 4, val kb nb sb, .int .i64 2] w fun e w' => e = .returned (.tuple #[.int .i64 0, .int .i64 0, .bool false]) ∧ Below w.heap.size w w') := by rw [h42] at C42; exact C42
        clear C42
        have D44 : Hid (∀ w, Calls Tryz.prog 122 #[val ka na sa, .int .i64 4, val kb nb sb, .int .i64 4] w fun e w' => e = .returned (.tuple #[.int .i64 0, .int .i64 0, .bool false]) ∧ Below w.heap.size w w') := by rw [h44] at C44; exact C44
        clear C44
        clear h22 h42 h44
        change Calls Tryz.prog 44 #[val ka na sa, val kb nb sb] w _
        have I0 : Hid (In3 (ka, na, sa) (kb, nb, sb) w (((w.alloc (.cells #[.int .i64 ka, .int .i64 na, .string sa] 23)).alloc (.cells #[.int .i64 kb, .int .i64 nb, .string sb] 23)).alloc (.cells #[.int .i64 0, .int .i64 0, .string ⟨#[]⟩] 23))) := Lib.hid ⟨(heap_alloc_old _ _ (by simp only [World.size_alloc]; omega)).trans ((heap_alloc_old _ _ (by simp)).trans (heap_alloc_new w _)), (heap_alloc_old _ _ (by simp)).trans (new_at _ _ _ (by simp)), new_at _ _ _ (by simp), by go_grown⟩
        go_enter Tryz.func44, Tryz.ntmps44
        go_wp2_with fail
        refine (D22.out _).mono ?_
        rintro e w1 ⟨rfl, hb1⟩
        have I1 := Lib.hid (I0.out.below hb1)
        clear hb1
        have a0 : w1.cell? ⟨w.heap.size, 0, none⟩ = some (.int .i64 ka) := (cell_of_row w1 _ 0 _ _ _ I1.out.1).trans rfl
        have a1 : w1.cell? ⟨w.heap.size, 1, none⟩ = some (.int .i64 na) := (cell_of_row w1 _ 1 _ _ _ I1.out.1).trans rfl
        have a2 : w1.cell? ⟨w.heap.size, 2, none⟩ = some (.string sa) := (cell_of_row w1 _ 2 _ _ _ I1.out.1).trans rfl
        have d0 : w1.cell? ⟨w.heap.size + 1, 0, none⟩ = some (.int .i64 kb) := (cell_of_row w1 _ 0 _ _ _ I1.out.2.1).trans rfl
        have d1 : w1.cell? ⟨w.heap.size + 1, 1, none⟩ = some (.int .i64 nb) := (cell_of_row w1 _ 1 _ _ _ I1.out.2.1).trans rfl
        have d2 : w1.cell? ⟨w.heap.size + 1, 2, none⟩ = some (.string sb) := (cell_of_row w1 _ 2 _ _ _ I1.out.2.1).trans rfl
        go_wp2_with fail
        refine (D42.out _).mono ?_
        rintro e w2 ⟨rfl, hb2⟩
        have I2 := Lib.hid (I1.out.below hb2)
        clear hb2
        clear a0 a1 a2 d0 d1 d2
        have a0 : w2.cell? ⟨w.heap.size, 0, none⟩ = some (.int .i64 ka) := (cell_of_row w2 _ 0 _ _ _ I2.out.1).trans rfl
        have a1 : w2.cell? ⟨w.heap.size, 1, none⟩ = some (.int .i64 na) := (cell_of_row w2 _ 1 _ _ _ I2.out.1).trans rfl
        have a2 : w2.cell? ⟨w.heap.size, 2, none⟩ = some (.string sa) := (cell_of_row w2 _ 2 _ _ _ I2.out.1).trans rfl
        have d0 : w2.cell? ⟨w.heap.size + 1, 0, none⟩ = some (.int .i64 kb) := (cell_of_row w2 _ 0 _ _ _ I2.out.2.1).trans rfl
        have d1 : w2.cell? ⟨w.heap.size + 1, 1, none⟩ = some (.int .i64 nb) := (cell_of_row w2 _ 1 _ _ _ I2.out.2.1).trans rfl
        have d2 : w2.cell? ⟨w.heap.size + 1, 2, none⟩ = some (.string sb) := (cell_of_row w2 _ 2 _ _ _ I2.out.2.1).trans rfl
        go_wp2_with fail
        refine (D44.out _).mono ?_
        rintro e w3 ⟨rfl, hb3⟩
        have I3 := Lib.hid (I2.out.below hb3)
        clear hb3
        clear a0 a1 a2 d0 d1 d2
        have a0 : w3.cell? ⟨w.heap.size, 0, none⟩ = some (.int .i64 ka) := (cell_of_row w3 _ 0 _ _ _ I3.out.1).trans rfl
        have a1 : w3.cell? ⟨w.heap.size, 1, none⟩ = some (.int .i64 na) := (cell_of_row w3 _ 1 _ _ _ I3.out.1).trans rfl
        have a2 : w3.cell? ⟨w.heap.size, 2, none⟩ = some (.string sa) := (cell_of_row w3 _ 2 _ _ _ I3.out.1).trans rfl
        have d0 : w3.cell? ⟨w.heap.size + 1, 0, none⟩ = some (.int .i64 kb) := (cell_of_row w3 _ 0 _ _ _ I3.out.2.1).trans rfl
        have d1 : w3.cell? ⟨w.heap.size + 1, 1, none⟩ = some (.int .i64 nb) := (cell_of_row w3 _ 1 _ _ _ I3.out.2.1).trans rfl
        have d2 : w3.cell? ⟨w.heap.size + 1, 2, none⟩ = some (.string sb) := (cell_of_row w3 _ 2 _ _ _ I3.out.2.1).trans rfl
        go_wp2_with (refine store23 rfl (.tmp 4) (.tmp 50) rfl (w.heap.size + 2) (nullT) rfl rfl _ I3.out.2.2.1 ?_; intro wz hp; have HP := Lib.hid hp; clear hp)
        exact bodyPost_ret (ret23 rfl rfl HP.out.at') rfl ⟨by rw [HE.out], HP.out.low I3.out.2.2.2 (by omega)⟩
set_option maxHeartbeats 2000000 in
theorem div_t (x y : V3) (hx : Sz x) (hy : Sz y) (w : World) : Calls Tryz.prog 46 #[toV x, toV y] w fun e w' => e = .returned (toV (divT (clT x) (clT y))) ∧ Below w.heap.size w w' := by
  have A0 : Hid (∀ k l w, Calls Tryz.prog 122 #[toV x, .int .i64 k, toV y, .int .i64 l] w fun e w' => e = .returned (.tuple #[.int .i64 (onlyIf (okB (clT x) (clT y) k l) (clT x).2.1), .int .i64 (onlyIf (okB (clT x) (clT y) k l) (clT y).2.1), .bool (okB (clT x) (clT y) k l)]) ∧ Below w.heap.size w w') := Lib.hid (fun k l w => numbers_t x y k l hx hy w)
  have C22 := Lib.hid (A0.out 2 2)
  clear A0 hx hy
  have HR : Hid (divT (clT x) (clT y) = divT (clT x) (clT y)) := Lib.hid rfl
  have RX := Lib.hid (clT_right x)
  have RY := Lib.hid (clT_right y)
  generalize clT x = X at *
  generalize clT y = Y at *
  obtain ⟨K, n, s⟩ := X
  obtain ⟨K', m, t⟩ := Y
  cases h22 : okB (K, n, s) (K', m, t) 2 2 with
  | true =>
    cases hc : (m == 0) with
    | true =>
      have HE : Hid (divT (K, n, s) (K', m, t) = nullT) := Lib.hid (by unfold divT; rw [h22]; dsimp only; rw [hc]; rfl)
      generalize divT (K, n, s) (K', m, t) = R at HE ⊢
      clear HR
      have hm : m = 0 := by simpa using hc
      obtain ⟨ka, na, sa⟩ := x
      obtain ⟨kb, nb, sb⟩ := y
      have D22 : Hid (∀ w, Calls Tryz.prog 122 #[val ka na sa, .int .i64 2, val kb nb sb, .int .i64 2] w fun e w' => e = .returned (.tuple #[.int .i64 n, .int .i64 m, .bool true]) ∧ Below w.heap.size w w') := by rw [h22] at C22; exact C22
      clear C22
      clear h22 RX RY
      change Calls Tryz.prog 46 #[val ka na sa, val kb nb sb] w _
      have I0 : Hid (In3 (ka, na, sa) (kb, nb, sb) w (((w.alloc (.cells #[.int .i64 ka, .int .i64 na, .string sa] 23)).alloc (.cells #[.int .i64 kb, .int .i64 nb, .string sb] 23)).alloc (.cells #[.int .i64 0, .int .i64 0, .string ⟨#[]⟩] 23))) := Lib.hid ⟨(heap_alloc_old _ _ (by simp only [World.size_alloc]; omega)).trans ((heap_alloc_old _ _ (by simp)).trans (heap_alloc_new w _)), (heap_alloc_old _ _ (by simp)).trans (new_at _ _ _ (by simp)), new_at _ _ _ (by simp), by go_grown⟩
      go_enter Tryz.func46, Tryz.ntmps46
      go_wp2_with fail
      refine (D22.out _).mono ?_
      rintro e w1 ⟨rfl, hb1⟩
      have I1 := Lib.hid (I0.out.below hb1)
      clear hb1
      have a0 : w1.cell? ⟨w.heap.size, 0, none⟩ = some (.int .i64 ka) := (cell_of_row w1 _ 0 _ _ _ I1.out.1).trans rfl
      have a1 : w1.cell? ⟨w.heap.size, 1, none⟩ = some (.int .i64 na) := (cell_of_row w1 _ 1 _ _ _ I1.out.1).trans rfl
      have a2 : w1.cell? ⟨w.heap.size, 2, none⟩ = some (.string sa) := (cell_of_row w1 _ 2 _ _ _ I1.out.1).trans rfl
      have d0 : w1.cell? ⟨w.heap.size + 1, 0, none⟩ = some (.int .i64 kb) := (cell_of_row w1 _ 0 _ _ _ I1.out.2.1).trans rfl
      have d1 : w1.cell? ⟨w.heap.size + 1, 1, none⟩ = some (.int .i64 nb) := (cell_of_row w1 _ 1 _ _ _ I1.out.2.1).trans rfl
      have d2 : w1.cell? ⟨w.heap.size + 1, 2, none⟩ = some (.string sb) := (cell_of_row w1 _ 2 _ _ _ I1.out.2.1).trans rfl
      go_wp2_with (refine store23 rfl (.tmp 4) (.tmp 21) rfl (w.heap.size + 2) (nullT) rfl rfl _ I1.out.2.2.1 ?_; intro wz hp; have HP := Lib.hid hp; clear hp)
      exact bodyPost_ret (ret23 rfl rfl HP.out.at') rfl ⟨by rw [HE.out], HP.out.low I1.out.2.2.2 (by omega)⟩
    | false =>
      have HE : Hid (divT (K, n, s) (K', m, t) = numT 2 (fdiv n m)) := Lib.hid (by unfold divT; rw [h22]; dsimp only; rw [hc]; rfl)
      generalize divT (K, n, s) (K', m, t) = R at HE ⊢
      clear HR
      have hm : ¬ m = 0 := by simpa using hc
      obtain ⟨ka, na, sa⟩ := x
      obtain ⟨kb, nb, sb⟩ := y
      have D22 : Hid (∀ w, Calls Tryz.prog 122 #[val ka na sa, .int .i64 2, val kb nb sb, .int .i64 2] w fun e w' => e = .returned (.tuple #[.int .i64 n, .int .i64 m, .bool true]) ∧ Below w.heap.size w w') := by rw [h22] at C22; exact C22
      clear C22
      clear h22 RX RY
      change Calls Tryz.prog 46 #[val ka na sa, val kb nb sb] w _
      have I0 : Hid (In3 (ka, na, sa) (kb, nb, sb) w (((w.alloc (.cells #[.int .i64 ka, .int .i64 na, .string sa] 23)).alloc (.cells #[.int .i64 kb, .int .i64 nb, .string sb] 23)).alloc (.cells #[.int .i64 0, .int .i64 0, .string ⟨#[]⟩] 23))) := Lib.hid ⟨(heap_alloc_old _ _ (by simp only [World.size_alloc]; omega)).trans ((heap_alloc_old _ _ (by simp)).trans (heap_alloc_new w _)), (heap_alloc_old _ _ (by simp)).trans (new_at _ _ _ (by simp)), new_at _ _ _ (by simp), by go_grown⟩
      go_enter Tryz.func46, Tryz.ntmps46
      go_wp2_with fail
      refine (D22.out _).mono ?_
      rintro e w1 ⟨rfl, hb1⟩
      have I1 := Lib.hid (I0.out.below hb1)
      clear hb1
      have a0 : w1.cell? ⟨w.heap.size, 0, none⟩ = some (.int .i64 ka) := (cell_of_row w1 _ 0 _ _ _ I1.out.1).trans rfl
      have a1 : w1.cell? ⟨w.heap.size, 1, none⟩ = some (.int .i64 na) := (cell_of_row w1 _ 1 _ _ _ I1.out.1).trans rfl
      have a2 : w1.cell? ⟨w.heap.size, 2, none⟩ = some (.string sa) := (cell_of_row w1 _ 2 _ _ _ I1.out.1).trans rfl
      have d0 : w1.cell? ⟨w.heap.size + 1, 0, none⟩ = some (.int .i64 kb) := (cell_of_row w1 _ 0 _ _ _ I1.out.2.1).trans rfl
      have d1 : w1.cell? ⟨w.heap.size + 1, 1, none⟩ = some (.int .i64 nb) := (cell_of_row w1 _ 1 _ _ _ I1.out.2.1).trans rfl
      have d2 : w1.cell? ⟨w.heap.size + 1, 2, none⟩ = some (.string sb) := (cell_of_row w1 _ 2 _ _ _ I1.out.2.1).trans rfl
      go_wp2_with fail
      refine ((fdiv_t n m hm _)).mono ?_
      rintro e w2 ⟨rfl, hb2⟩
      have I2 := Lib.hid (I1.out.below hb2)
      clear hb2
      clear a0 a1 a2 d0 d1 d2
      have a0 : w2.cell? ⟨w.heap.size, 0, none⟩ = some (.int .i64 ka) := (cell_of_row w2 _ 0 _ _ _ I2.out.1).trans rfl
      have a1 : w2.cell? ⟨w.heap.size, 1, none⟩ = some (.int .i64 na) := (cell_of_row w2 _ 1 _ _ _ I2.out.1).trans rfl
      have a2 : w2.cell? ⟨w.heap.size, 2, none⟩ = some (.string sa) := (cell_of_row w2 _ 2 _ _ _ I2.out.1).trans rfl
      have d0 : w2.cell? ⟨w.heap.size + 1, 0, none⟩ = some (.int .i64 kb) := (cell_of_row w2 _ 0 _ _ _ I2.out.2.1).trans rfl
      have d1 : w2.cell? ⟨w.heap.size + 1, 1, none⟩ = some (.int .i64 nb) := (cell_of_row w2 _ 1 _ _ _ I2.out.2.1).trans rfl
      have d2 : w2.cell? ⟨w.heap.size + 1, 2, none⟩ = some (.string sb) := (cell_of_row w2 _ 2 _ _ _ I2.out.2.1).trans rfl
      go_wp2_with fail
      refine (number_t _ _ _).mono ?_
      rintro e w3 ⟨rfl, hb3⟩
      have I3 := Lib.hid (I2.out.below hb3)
      clear hb3
      go_wp2_with (refine store23 rfl (.tmp 4) (.tmp 25) rfl (w.heap.size + 2) (numT 2 (fdiv n m)) rfl rfl _ I3.out.2.2.1 ?_; intro wz hp; have HP := Lib.hid hp; clear hp)
      exact bodyPost_ret (ret23 rfl rfl HP.out.at') rfl ⟨by rw [HE.out], HP.out.low I3.out.2.2.2 (by omega)⟩
  | false =>
    have HE : Hid (divT (K, n, s) (K', m, t) = nullT) := Lib.hid (by unfold divT; rw [h22]; rfl)
    generalize divT (K, n, s) (K', m, t) = R at HE ⊢
    clear HR RX RY
    obtain ⟨ka, na, sa⟩ := x
    obtain ⟨kb, nb, sb⟩ := y
    have D22 : Hid (∀ w, Calls Tryz.prog 122 #[val ka na sa, .int .i64 2, val kb nb sb, .int .i64 2] w fun e w' => e = .returned (.tuple #[.int .i64 0, .int .i64 0, .bool false]) ∧ Below w.heap.size w w') := by rw [h22] at C22; exact C22
    clear C22
    clear h22
    change Calls Tryz.prog 46 #[val ka na sa, val kb nb sb] w _
    have I0 : Hid (In3 (ka, na, sa) (kb, nb, sb) w (((w.alloc (.cells #[.int .i64 ka, .int .i64 na, .string sa] 23)).alloc (.cells #[.int .i64 kb, .int .i64 nb, .string sb] 23)).alloc (.cells #[.int .i64 0, .int .i64 0, .string ⟨#[]⟩] 23))) := Lib.hid ⟨(heap_alloc_old _ _ (by simp only [World.size_alloc]; omega)).trans ((heap_alloc_old _ _ (by simp)).trans (heap_alloc_new w _)), (heap_alloc_old _ _ (by simp)).trans (new_at _ _ _ (by simp)), new_at _ _ _ (by simp), by go_grown⟩
    go_enter Tryz.func46, Tryz.ntmps46
    go_wp2_with fail
    refine (D22.out _).mono ?_
    rintro e w1 ⟨rfl, hb1⟩
    have I1 := Lib.hid (I0.out.below hb1)
    clear hb1
    have a0 : w1.cell? ⟨w.heap.size, 0, none⟩ = some (.int .i64 ka) := (cell_of_row w1 _ 0 _ _ _ I1.out.1).trans rfl
    have a1 : w1.cell? ⟨w.heap.size, 1, none⟩ = some (.int .i64 na) := (cell_of_row w1 _ 1 _ _ _ I1.out.1).trans rfl
    have a2 : w1.cell? ⟨w.heap.size, 2, none⟩ = some (.string sa) := (cell_of_row w1 _ 2 _ _ _ I1.out.1).trans rfl
    have d0 : w1.cell? ⟨w.heap.size + 1, 0, none⟩ = some (.int .i64 kb) := (cell_of_row w1 _ 0 _ _ _ I1.out.2.1).trans rfl
    have d1 : w1.cell? ⟨w.heap.size + 1, 1, none⟩ = some (.int .i64 nb) := (cell_of_row w1 _ 1 _ _ _ I1.out.2.1).trans rfl
    have d2 : w1.cell? ⟨w.heap.size + 1, 2, none⟩ = some (.string sb) := (cell_of_row w1 _ 2 _ _ _ I1.out.2.1).trans rfl
    go_wp2_with (refine store23 rfl (.tmp 4) (.tmp 21) rfl (w.heap.size + 2) (nullT) rfl rfl _ I1.out.2.2.1 ?_; intro wz hp; have HP := Lib.hid hp; clear hp)
    exact bodyPost_ret (ret23 rfl rfl HP.out.at') rfl ⟨by rw [HE.out], HP.out.low I1.out.2.2.2 (by omega)⟩
set_option maxHeartbeats 2000000 in
theorem mod_t (x y : V3) (hx : Sz x) (hy : Sz y) (w : World) : Calls Tryz.prog 47 #[toV x, toV y] w fun e w' => e = .returned (toV (modT (clT x) (clT y))) ∧ Below w.heap.size w w' := by
  have A0 : Hid (∀ k l w, Calls Tryz.prog 122 #[toV x, .int .i64 k, toV y, .int .i64 l] w fun e w' => e = .returned (.tuple #[.int .i64 (onlyIf (okB (clT x) (clT y) k l) (clT x).2.1), .int .i64 (onlyIf (okB (clT x) (clT y) k l) (clT y).2.1), .bool (okB (clT x) (clT y) k l)]) ∧ Below w.heap.size w w') := Lib.hid (fun k l w => numbers_t x y k l hx hy w)
  have C22 := Lib.hid (A0.out 2 2)
  clear A0 hx hy
  have HR : Hid (modT (clT x) (clT y) = modT (clT x) (clT y)) := Lib.hid rfl
  have RX := Lib.hid (clT_right x)
  have RY := Lib.hid (clT_right y)
  generalize clT x = X at *
  generalize clT y = Y at *
  obtain ⟨K, n, s⟩ := X
  obtain ⟨K', m, t⟩ := Y
  cases h22 : okB (K, n, s) (K', m, t) 2 2 with
  | true =>
    cases hc : (m == 0) with
    | true =>
      have HE : Hid (modT (K, n, s) (K', m, t) = nullT) := Lib.hid (by unfold modT; rw [h22]; dsimp only; rw [hc]; rfl)
      generalize modT (K, n, s) (K', m, t) = R at HE ⊢
      clear HR
      have hm : m = 0 := by simpa using hc
      obtain ⟨ka, na, sa⟩ := x
      obtain ⟨kb, nb, sb⟩ := y
      have D22 : Hid (∀ w, Calls Tryz.prog 122 #[val ka na sa, .int .i64 2, val kb nb sb, .int .i64 2] w fun e w' => e = .returned (.tuple #[.int .i64 n, .int .i64 m, .bool true]) ∧ Below w.heap.size w w') := by rw [h22] at C22; exact C22
      clear C22
      clear h22 RX RY
      change Calls Tryz.prog 47 #[val ka na sa, val kb nb sb] w _
      have I0 : Hid (In3 (ka, na, sa) (kb, nb, sb) w (((w.alloc (.cells #[.int .i64 ka, .int .i64 na, .string sa] 23)).alloc (.cells #[.int .i64 kb, .int .i64 nb, .string sb] 23)).alloc (.cells #[.int .i64 0, .int .i64 0, .string ⟨#[]⟩] 23))) := Lib.hid ⟨(heap_alloc_old _ _ (by simp only [World.size_alloc]; omega)).trans ((heap_alloc_old _ _ (by simp)).trans (heap_alloc_new w _)), (heap_alloc_old _ _ (by simp)).trans (new_at _ _ _ (by simp)), new_at _ _ _ (by simp), by go_grown⟩
      go_enter Tryz.func47, Tryz.ntmps47
      go_wp2_with fail
      refine (D22.out _).mono ?_
      rintro e w1 ⟨rfl, hb1⟩
      have I1 := Lib.hid (I0.out.below hb1)
      clear hb1
      have a0 : w1.cell? ⟨w.heap.size, 0, none⟩ = some (.int .i64 ka) := (cell_of_row w1 _ 0 _ _ _ I1.out.1).trans rfl
      have a1 : w1.cell? ⟨w.heap.size, 1, none⟩ = some (.int .i64 na) := (cell_of_row w1 _ 1 _ _ _ I1.out.1).trans rfl
      have a2 : w1.cell? ⟨w.heap.size, 2, none⟩ = some (.string sa) := (cell_of_row w1 _ 2 _ _ _ I1.out.1).trans rfl
      have d0 : w1.cell? ⟨w.heap.size + 1, 0, none⟩ = some (.int .i64 kb) := (cell_of_row w1 _ 0 _ _ _ I1.out.2.1).trans rfl
      have d1 : w1.cell? ⟨w.heap.size + 1, 1, none⟩ = some (.int .i64 nb) := (cell_of_row w1 _ 1 _ _ _ I1.out.2.1).trans rfl
      have d2 : w1.cell? ⟨w.heap.size + 1, 2, none⟩ = some (.string sb) := (cell_of_row w1 _ 2 _ _ _ I1.out.2.1).trans rfl
      go_wp2_with (refine store23 rfl (.tmp 4) (.tmp 21) rfl (w.heap.size + 2) (nullT) rfl rfl _ I1.out.2.2.1 ?_; intro wz hp; have HP := Lib.hid hp; clear hp)
      exact bodyPost_ret (ret23 rfl rfl HP.out.at') rfl ⟨by rw [HE.out], HP.out.low I1.out.2.2.2 (by omega)⟩
    | false =>
      have HE : Hid (modT (K, n, s) (K', m, t) = numT 2 (wrap64 (n - wrap64 (m * fdiv n m)))) := Lib.hid (by unfold modT; rw [h22]; dsimp only; rw [hc]; rfl)
      generalize modT (K, n, s) (K', m, t) = R at HE ⊢
      clear HR
      have hm : ¬ m = 0 := by simpa using hc
      obtain ⟨ka, na, sa⟩ := x
      obtain ⟨kb, nb, sb⟩ := y
      have D22 : Hid (∀ w, Calls Tryz.prog 122 #[val ka na sa, .int .i64 2, val kb nb sb, .int .i64 2] w fun e w' => e = .returned (.tuple #[.int .i64 n, .int .i64 m, .bool true]) ∧ Below w.heap.size w w') := by rw [h22] at C22; exact C22
      clear C22
      clear h22 RX RY
      change Calls Tryz.prog 47 #[val ka na sa, val kb nb sb] w _
      have I0 : Hid (In3 (ka, na, sa) (kb, nb, sb) w (((w.alloc (.cells #[.int .i64 ka, .int .i64 na, .string sa] 23)).alloc (.cells #[.int .i64 kb, .int .i64 nb, .string sb] 23)).alloc (.cells #[.int .i64 0, .int .i64 0, .string ⟨#[]⟩] 23))) := Lib.hid ⟨(heap_alloc_old _ _ (by simp only [World.size_alloc]; omega)).trans ((heap_alloc_old _ _ (by simp)).trans (heap_alloc_new w _)), (heap_alloc_old _ _ (by simp)).trans (new_at _ _ _ (by simp)), new_at _ _ _ (by simp), by go_grown⟩
      go_enter Tryz.func47, Tryz.ntmps47
      go_wp2_with fail
      refine (D22.out _).mono ?_
      rintro e w1 ⟨rfl, hb1⟩
      have I1 := Lib.hid (I0.out.below hb1)
      clear hb1
      have a0 : w1.cell? ⟨w.heap.size, 0, none⟩ = some (.int .i64 ka) := (cell_of_row w1 _ 0 _ _ _ I1.out.1).trans rfl
      have a1 : w1.cell? ⟨w.heap.size, 1, none⟩ = some (.int .i64 na) := (cell_of_row w1 _ 1 _ _ _ I1.out.1).trans rfl
      have a2 : w1.cell? ⟨w.heap.size, 2, none⟩ = some (.string sa) := (cell_of_row w1 _ 2 _ _ _ I1.out.1).trans rfl
      have d0 : w1.cell? ⟨w.heap.size + 1, 0, none⟩ = some (.int .i64 kb) := (cell_of_row w1 _ 0 _ _ _ I1.out.2.1).trans rfl
      have d1 : w1.cell? ⟨w.heap.size + 1, 1, none⟩ = some (.int .i64 nb) := (cell_of_row w1 _ 1 _ _ _ I1.out.2.1).trans rfl
      have d2 : w1.cell? ⟨w.heap.size + 1, 2, none⟩ = some (.string sb) := (cell_of_row w1 _ 2 _ _ _ I1.out.2.1).trans rfl
      go_wp2_with fail
      refine ((fdiv_t n m hm _)).mono ?_
      rintro e w2 ⟨rfl, hb2⟩
      have I2 := Lib.hid (I1.out.below hb2)
      clear hb2
      clear a0 a1 a2 d0 d1 d2
      have a0 : w2.cell? ⟨w.heap.size, 0, none⟩ = some (.int .i64 ka) := (cell_of_row w2 _ 0 _ _ _ I2.out.1).trans rfl
      have a1 : w2.cell? ⟨w.heap.size, 1, none⟩ = some (.int .i64 na) := (cell_of_row w2 _ 1 _ _ _ I2.out.1).trans rfl
      have a2 : w2.cell? ⟨w.heap.size, 2, none⟩ = some (.string sa) := (cell_of_row w2 _ 2 _ _ _ I2.out.1).trans rfl
      have d0 : w2.cell? ⟨w.heap.size + 1, 0, none⟩ = some (.int .i64 kb) := (cell_of_row w2 _ 0 _ _ _ I2.out.2.1).trans rfl
      have d1 : w2.cell? ⟨w.heap.size + 1, 1, none⟩ = some (.int .i64 nb) := (cell_of_row w2 _ 1 _ _ _ I2.out.2.1).trans rfl
      have d2 : w2.cell? ⟨w.heap.size + 1, 2, none⟩ = some (.string sb) := (cell_of_row w2 _ 2 _ _ _ I2.out.2.1).trans rfl
      go_wp2_with fail
      refine (number_t _ _ _).mono ?_
      rintro e w3 ⟨rfl, hb3⟩
      have I3 := Lib.hid (I2.out.below hb3)
      clear hb3
      go_wp2_with (refine store23 rfl (.tmp 4) (.tmp 29) rfl (w.heap.size + 2) (numT 2 (wrap64 (n - wrap64 (m * fdiv n m)))) rfl rfl _ I3.out.2.2.1 ?_; intro wz hp; have HP := Lib.hid hp; clear hp)
      exact bodyPost_ret (ret23 rfl rfl HP.out.at') rfl ⟨by rw [HE.out], HP.out.low I3.out.2.2.2 (by omega)⟩
  | false =>
    have HE : Hid (modT (K, n, s) (K', m, t) = nullT) := Lib.hid (by unfold modT; rw [h22]; rfl)
    generalize modT (K, n, s) (K', m, t) = R at HE ⊢
    clear HR RX RY
    obtain ⟨ka, na, sa⟩ := x
    obtain ⟨kb, nb, sb⟩ := y
    have D22 : Hid (∀ w, Calls Tryz.prog 122 #[val ka na sa, .int .i64 2, val kb nb sb, .int .i64 2] w fun e w' => e = .returned (.tuple #[.int .i64 0, .int .i64 0, .bool false]) ∧ Below w.heap.size w w') := by rw [h22] at C22; exact C22
    clear C22
    clear h22
    change Calls Tryz.prog 47 #[val ka na sa, val kb nb sb] w _
    have I0 : Hid (In3 (ka, na, sa) (kb, nb, sb) w (((w.alloc (.cells #[.int .i64 ka, .int .i64 na, .string sa] 23)).alloc (.cells #[.int .i64 kb, .int .i64 nb, .string sb] 23)).alloc (.cells #[.int .i64 0, .int .i64 0, .string ⟨#[]⟩] 23))) := Lib.hid ⟨(heap_alloc_old _ _ (by simp only [World.size_alloc]; omega)).trans ((heap_alloc_old _ _ (by simp)).trans (heap_alloc_new w _)), (heap_alloc_old _ _ (by simp)).trans (new_at _ _ _ (by simp)), new_at _ _ _ (by simp), by go_grown⟩
    go_enter Tryz.func47, Tryz.ntmps47
    go_wp2_with fail
    refine (D22.out _).mono ?_
    rintro e w1 ⟨rfl, hb1⟩
    have I1 := Lib.hid (I0.out.below hb1)
    clear hb1
    have a0 : w1.cell? ⟨w.heap.size, 0, none⟩ = some (.int .i64 ka) := (cell_of_row w1 _ 0 _ _ _ I1.out.1).trans rfl
    have a1 : w1.cell? ⟨w.heap.size, 1, none⟩ = some (.int .i64 na) := (cell_of_row w1 _ 1 _ _ _ I1.out.1).trans rfl
    have a2 : w1.cell? ⟨w.heap.size, 2, none⟩ = some (.string sa) := (cell_of_row w1 _ 2 _ _ _ I1.out.1).trans rfl
    have d0 : w1.cell? ⟨w.heap.size + 1, 0, none⟩ = some (.int .i64 kb) := (cell_of_row w1 _ 0 _ _ _ I1.out.2.1).trans rfl
    have d1 : w1.cell? ⟨w.heap.size + 1, 1, none⟩ = some (.int .i64 nb) := (cell_of_row w1 _ 1 _ _ _ I1.out.2.1).trans rfl
    have d2 : w1.cell? ⟨w.heap.size + 1, 2, none⟩ = some (.string sb) := (cell_of_row w1 _ 2 _ _ _ I1.out.2.1).trans rfl
    go_wp2_with (refine store23 rfl (.tmp 4) (.tmp 21) rfl (w.heap.size + 2) (nullT) rfl rfl _ I1.out.2.2.1 ?_; intro wz hp; have HP := Lib.hid hp; clear hp)
    exact bodyPost_ret (ret23 rfl rfl HP.out.at') rfl ⟨by rw [HE.out], HP.out.low I1.out.2.2.2 (by omega)⟩
set_option maxHeartbeats 1000000 in
theorem neg_t (x : V3) (hx : Sz x) (w : World) : Calls Tryz.prog 48 #[toV x] w fun e w' => e = .returned (toV (negT (clT x))) ∧ Below w.heap.size w w' := by
  have CX := Lib.hid (fun w => clean_t x hx w)
  clear hx
  generalize clT x = X at *
  obtain ⟨ka, na, sa⟩ := x
  obtain ⟨K, n, s⟩ := X
  change Calls Tryz.prog 48 #[val ka na sa] w _
  change Hid (∀ w, Calls Tryz.prog 94 #[val ka na sa] w fun e w' => e = .returned (toV (K, n, s)) ∧ Below w.heap.size w w') at CX
  cases hk : (K != 2) with
  | true =>
    have HE : Hid (negT (K, n, s) = nullT) := Lib.hid (by unfold negT; rw [hk]; rfl)
    generalize negT (K, n, s) = R at HE ⊢
    go_enter Tryz.func48, Tryz.ntmps48
    go_wp2_with fail
    refine (CX.out _).mono ?_
    rintro e w1 ⟨rfl, hb1⟩
    have B1 : Hid (w1.heap[w.heap.size]? = some (.cells (cells (ka, na, sa)) 23 (0, 0))) := Lib.hid ((hb1.block _ (by simp only [World.size_alloc]; omega)).trans ((heap_alloc_old _ _ (by simp)).trans (heap_alloc_new w _)))
    have R1 : Hid (w1.heap[w.heap.size + 1]? = some (.cells (cells nullT) 23 (0, 0))) := Lib.hid ((hb1.block _ (by simp)).trans (new_at _ _ _ (by simp)))
    have HL1 := Lib.hid (below_call (w := w) (by go_grown) hb1)
    clear hb1
    go_wp2_with (first | (refine store23 rfl (.tmp 1) (.tmp 4) rfl w.heap.size (K, n, s) rfl rfl _ B1.out ?_; intro wz hp; have HP := Lib.hid hp; clear hp; have a0 : wz.cell? ⟨w.heap.size, 0, none⟩ = some (.int .i64 K) := (cell_of_row wz _ 0 _ _ _ HP.out.at').trans rfl; have a1 : wz.cell? ⟨w.heap.size, 1, none⟩ = some (.int .i64 n) := (cell_of_row wz _ 1 _ _ _ HP.out.at').trans rfl; have a2 : wz.cell? ⟨w.heap.size, 2, none⟩ = some (.string s) := (cell_of_row wz _ 2 _ _ _ HP.out.at').trans rfl; have R2 : Hid (wz.heap[w.heap.size + 1]? = some (.cells (cells nullT) 23 (0, 0))) := Lib.hid ((HP.out.keeps.block _ (lt_of_block R1.out) (by omega)).trans R1.out); have HL2 := Lib.hid (HP.out.low HL1.out (Nat.le_refl _))) | (refine store23 rfl (.tmp 2) (.tmp 8) rfl (w.heap.size + 1) nullT rfl rfl _ R2.out ?_; intro wy hp; have HQ := Lib.hid hp; clear hp))
    exact bodyPost_ret (ret23 rfl rfl HQ.out.at') rfl ⟨by rw [HE.out], HQ.out.low HL2.out (by omega)⟩
  | false =>
    have HE : Hid (negT (K, n, s) = numT 2 (wrap64 (-n))) := Lib.hid (by unfold negT; rw [hk]; rfl)
    generalize negT (K, n, s) = R at HE ⊢
    go_enter Tryz.func48, Tryz.ntmps48
    go_wp2_with fail
    refine (CX.out _).mono ?_
    rintro e w1 ⟨rfl, hb1⟩
    have B1 : Hid (w1.heap[w.heap.size]? = some (.cells (cells (ka, na, sa)) 23 (0, 0))) := Lib.hid ((hb1.block _ (by simp only [World.size_alloc]; omega)).trans ((heap_alloc_old _ _ (by simp)).trans (heap_alloc_new w _)))
    have R1 : Hid (w1.heap[w.heap.size + 1]? = some (.cells (cells nullT) 23 (0, 0))) := Lib.hid ((hb1.block _ (by simp)).trans (new_at _ _ _ (by simp)))
    have HL1 := Lib.hid (below_call (w := w) (by go_grown) hb1)
    clear hb1
    go_wp2_with (first | (refine store23 rfl (.tmp 1) (.tmp 4) rfl w.heap.size (K, n, s) rfl rfl _ B1.out ?_; intro wz hp; have HP := Lib.hid hp; clear hp; have a0 : wz.cell? ⟨w.heap.size, 0, none⟩ = some (.int .i64 K) := (cell_of_row wz _ 0 _ _ _ HP.out.at').trans rfl; have a1 : wz.cell? ⟨w.heap.size, 1, none⟩ = some (.int .i64 n) := (cell_of_row wz _ 1 _ _ _ HP.out.at').trans rfl; have a2 : wz.cell? ⟨w.heap.size, 2, none⟩ = some (.string s) := (cell_of_row wz _ 2 _ _ _ HP.out.at').trans rfl; have R2 : Hid (wz.heap[w.heap.size + 1]? = some (.cells (cells nullT) 23 (0, 0))) := Lib.hid ((HP.out.keeps.block _ (lt_of_block R1.out) (by omega)).trans R1.out); have HL2 := Lib.hid (HP.out.low HL1.out (Nat.le_refl _))) | (refine store23 rfl (.tmp 2) (.tmp 8) rfl (w.heap.size + 1) nullT rfl rfl _ R2.out ?_; intro wy hp; have HQ := Lib.hid hp; clear hp))
    go_wp2_with fail
    refine (number_t _ _ _).mono ?_
    rintro e w3 ⟨rfl, hb3⟩
    have R3 : Hid (w3.heap[w.heap.size + 1]? = some (.cells (cells nullT) 23 (0, 0))) := Lib.hid ((hb3.block _ (lt_of_block R2.out)).trans R2.out)
    have HL3 := Lib.hid (below_call HL2.out hb3)
    clear hb3 a0 a1 a2
    go_wp2_with (refine store23 rfl (.tmp 2) (.tmp 12) rfl (w.heap.size + 1) (numT 2 (wrap64 (-n))) rfl rfl _ R3.out ?_; intro wy hp; have HQ := Lib.hid hp; clear hp)
    exact bodyPost_ret (ret23 rfl rfl HQ.out.at') rfl ⟨by rw [HE.out], HQ.out.low HL3.out (by omega)⟩
theorem big_iff (n m : Int) (hn : ¬ n = 0) : bigB n m = decide (999999999999999 / max n (-n) < max m (-m)) := by
  unfold bigB
  have ea : (n.natAbs : Int) = max n (-n) := by omega
  have eb : (m.natAbs : Int) = max m (-m) := by omega
  rw [decide_eq_decide, ← ea, ← eb, Int.ediv_lt_iff_lt_mul (by omega), Nat.mul_comm]
  omega
theorem big_zero (m : Int) : bigB 0 m = false := by simp [bigB]
set_option maxHeartbeats 2000000 in
theorem mul_t (x y : V3) (hx : Sz x) (hy : Sz y) (w : World) : Calls Tryz.prog 45 #[toV x, toV y] w fun e w' => e = .returned (toV (mulT (clT x) (clT y))) ∧ Below w.heap.size w w' := by
  have A0 : Hid (∀ k l w, Calls Tryz.prog 122 #[toV x, .int .i64 k, toV y, .int .i64 l] w fun e w' => e = .returned (.tuple #[.int .i64 (onlyIf (okB (clT x) (clT y) k l) (clT x).2.1), .int .i64 (onlyIf (okB (clT x) (clT y) k l) (clT y).2.1), .bool (okB (clT x) (clT y) k l)]) ∧ Below w.heap.size w w') := Lib.hid (fun k l w => numbers_t x y k l hx hy w)
  have C22 := Lib.hid (A0.out 2 2)
  clear A0 hx hy
  obtain ⟨_, _, b1, b2, _⟩ := (clT_right x).bounds
  obtain ⟨_, _, b3, b4, _⟩ := (clT_right y).bounds
  generalize clT x = X at *
  generalize clT y = Y at *
  obtain ⟨K, n, s⟩ := X
  obtain ⟨K', m, t⟩ := Y
  dsimp only at b1 b2 b3 b4
  cases h22 : okB (K, n, s) (K', m, t) 2 2 with
  | false =>
    have HE : Hid (mulT (K, n, s) (K', m, t) = nullT) := Lib.hid (by unfold mulT; rw [h22]; rfl)
    generalize mulT (K, n, s) (K', m, t) = R at HE ⊢
    clear b1 b2 b3 b4
    obtain ⟨ka, na, sa⟩ := x
    obtain ⟨kb, nb, sb⟩ := y
    have D22 : Hid (∀ w, Calls Tryz.prog 122 #[val ka na sa, .int .i64 2, val kb nb sb, .int .i64 2] w fun e w' => e = .returned (.tuple #[.int .i64 0, .int .i64 0, .bool false]) ∧ Below w.heap.size w w') := by rw [h22] at C22; exact C22
    clear C22
    clear h22
    change Calls Tryz.prog 45 #[val ka na sa, val kb nb sb] w _
    have I0 : Hid (In3 (ka, na, sa) (kb, nb, sb) w (((w.alloc (.cells #[.int .i64 ka, .int .i64 na, .string sa] 23)).alloc (.cells #[.int .i64 kb, .int .i64 nb, .string sb] 23)).alloc (.cells #[.int .i64 0, .int .i64 0, .string ⟨#[]⟩] 23))) := Lib.hid ⟨(heap_alloc_old _ _ (by simp only [World.size_alloc]; omega)).trans ((heap_alloc_old _ _ (by simp)).trans (heap_alloc_new w _)), (heap_alloc_old _ _ (by simp)).trans (new_at _ _ _ (by simp)), new_at _ _ _ (by simp), by go_grown⟩
    go_enter Tryz.func45, Tryz.ntmps45
    go_wp2_with fail
    refine (D22.out _).mono ?_
    rintro e w1 ⟨rfl, hb1⟩
    have I1 := Lib.hid (I0.out.below hb1)
    clear hb1
    have a0 : w1.cell? ⟨w.heap.size, 0, none⟩ = some (.int .i64 ka) := (cell_of_row w1 _ 0 _ _ _ I1.out.1).trans rfl
    have a1 : w1.cell? ⟨w.heap.size, 1, none⟩ = some (.int .i64 na) := (cell_of_row w1 _ 1 _ _ _ I1.out.1).trans rfl
    have a2 : w1.cell? ⟨w.heap.size, 2, none⟩ = some (.string sa) := (cell_of_row w1 _ 2 _ _ _ I1.out.1).trans rfl
    have d0 : w1.cell? ⟨w.heap.size + 1, 0, none⟩ = some (.int .i64 kb) := (cell_of_row w1 _ 0 _ _ _ I1.out.2.1).trans rfl
    have d1 : w1.cell? ⟨w.heap.size + 1, 1, none⟩ = some (.int .i64 nb) := (cell_of_row w1 _ 1 _ _ _ I1.out.2.1).trans rfl
    have d2 : w1.cell? ⟨w.heap.size + 1, 2, none⟩ = some (.string sb) := (cell_of_row w1 _ 2 _ _ _ I1.out.2.1).trans rfl
    go_wp2_with (refine store23 rfl (.tmp 4) (.tmp 33) rfl (w.heap.size + 2) (nullT) rfl rfl _ I1.out.2.2.1 ?_; intro wz hp; have HP := Lib.hid hp; clear hp)
    exact bodyPost_ret (ret23 rfl rfl HP.out.at') rfl ⟨by rw [HE.out], HP.out.low I1.out.2.2.2 (by omega)⟩
  | true =>
    by_cases hn : n = 0
    · have hz : bigB n m = false := by rw [hn]; exact big_zero m
      have HE : Hid (mulT (K, n, s) (K', m, t) = numT 2 0) := Lib.hid (by unfold mulT; rw [h22]; dsimp only; rw [hz, hn]; simp [wrap64])
      generalize mulT (K, n, s) (K', m, t) = R at HE ⊢
      clear b1 b2 b3 b4 hz
      obtain ⟨ka, na, sa⟩ := x
      obtain ⟨kb, nb, sb⟩ := y
      have D22 : Hid (∀ w, Calls Tryz.prog 122 #[val ka na sa, .int .i64 2, val kb nb sb, .int .i64 2] w fun e w' => e = .returned (.tuple #[.int .i64 n, .int .i64 m, .bool true]) ∧ Below w.heap.size w w') := by rw [h22] at C22; exact C22
      clear C22
      clear h22
      change Calls Tryz.prog 45 #[val ka na sa, val kb nb sb] w _
      have I0 : Hid (In3 (ka, na, sa) (kb, nb, sb) w (((w.alloc (.cells #[.int .i64 ka, .int .i64 na, .string sa] 23)).alloc (.cells #[.int .i64 kb, .int .i64 nb, .string sb] 23)).alloc (.cells #[.int .i64 0, .int .i64 0, .string ⟨#[]⟩] 23))) := Lib.hid ⟨(heap_alloc_old _ _ (by simp only [World.size_alloc]; omega)).trans ((heap_alloc_old _ _ (by simp)).trans (heap_alloc_new w _)), (heap_alloc_old _ _ (by simp)).trans (new_at _ _ _ (by simp)), new_at _ _ _ (by simp), by go_grown⟩
      go_enter Tryz.func45, Tryz.ntmps45
      go_wp2_with fail
      refine (D22.out _).mono ?_
      rintro e w1 ⟨rfl, hb1⟩
      have I1 := Lib.hid (I0.out.below hb1)
      clear hb1
      have a0 : w1.cell? ⟨w.heap.size, 0, none⟩ = some (.int .i64 ka) := (cell_of_row w1 _ 0 _ _ _ I1.out.1).trans rfl
      have a1 : w1.cell? ⟨w.heap.size, 1, none⟩ = some (.int .i64 na) := (cell_of_row w1 _ 1 _ _ _ I1.out.1).trans rfl
      have a2 : w1.cell? ⟨w.heap.size, 2, none⟩ = some (.string sa) := (cell_of_row w1 _ 2 _ _ _ I1.out.1).trans rfl
      have d0 : w1.cell? ⟨w.heap.size + 1, 0, none⟩ = some (.int .i64 kb) := (cell_of_row w1 _ 0 _ _ _ I1.out.2.1).trans rfl
      have d1 : w1.cell? ⟨w.heap.size + 1, 1, none⟩ = some (.int .i64 nb) := (cell_of_row w1 _ 1 _ _ _ I1.out.2.1).trans rfl
      have d2 : w1.cell? ⟨w.heap.size + 1, 2, none⟩ = some (.string sb) := (cell_of_row w1 _ 2 _ _ _ I1.out.2.1).trans rfl
      go_wp2_with fail
      refine (number_t _ _ _).mono ?_
      rintro e w2 ⟨rfl, hb2⟩
      have I2 := Lib.hid (I1.out.below hb2)
      clear hb2
      go_wp2_with (refine store23 rfl (.tmp 4) (.tmp 37) rfl (w.heap.size + 2) (numT 2 0) rfl rfl _ I2.out.2.2.1 ?_; intro wz hp; have HP := Lib.hid hp; clear hp)
      exact bodyPost_ret (ret23 rfl rfl HP.out.at') rfl ⟨by rw [HE.out], HP.out.low I2.out.2.2.2 (by omega)⟩
    · have hbig := big_iff n m hn
      have hA1 : 1 ≤ max n (-n) := by omega
      have hA2 : max n (-n) ≤ 999999999999999 := by omega
      have hB1 : max m (-m) ≤ 999999999999999 := by omega
      have hB2 : 0 ≤ max m (-m) := by omega
      cases hq : decide (999999999999999 / max n (-n) < max m (-m)) with
      | true =>
        have HE : Hid (mulT (K, n, s) (K', m, t) = nullT) := Lib.hid (by unfold mulT; rw [h22]; dsimp only; rw [hbig, hq]; rfl)
        generalize mulT (K, n, s) (K', m, t) = R at HE ⊢
        clear hbig
        obtain ⟨A, eA⟩ : ∃ A, max n (-n) = A := ⟨_, rfl⟩
        obtain ⟨B, eB⟩ : ∃ B, max m (-m) = B := ⟨_, rfl⟩
        obtain ⟨Q, eQ⟩ : ∃ Q : Int, 999999999999999 / A = Q := ⟨_, rfl⟩
        rw [eA, eB, eQ] at hq
        rw [eA] at hA1 hA2
        rw [eB] at hB1 hB2
        have hq' : Q < B := by simpa using hq
        clear hq
        obtain ⟨ka, na, sa⟩ := x
        obtain ⟨kb, nb, sb⟩ := y
        have D22 : Hid (∀ w, Calls Tryz.prog 122 #[val ka na sa, .int .i64 2, val kb nb sb, .int .i64 2] w fun e w' => e = .returned (.tuple #[.int .i64 n, .int .i64 m, .bool true]) ∧ Below w.heap.size w w') := by rw [h22] at C22; exact C22
        clear C22
        clear h22
        change Calls Tryz.prog 45 #[val ka na sa, val kb nb sb] w _
        have I0 : Hid (In3 (ka, na, sa) (kb, nb, sb) w (((w.alloc (.cells #[.int .i64 ka, .int .i64 na, .string sa] 23)).alloc (.cells #[.int .i64 kb, .int .i64 nb, .string sb] 23)).alloc (.cells #[.int .i64 0, .int .i64 0, .string ⟨#[]⟩] 23))) := Lib.hid ⟨(heap_alloc_old _ _ (by simp only [World.size_alloc]; omega)).trans ((heap_alloc_old _ _ (by simp)).trans (heap_alloc_new w _)), (heap_alloc_old _ _ (by simp)).trans (new_at _ _ _ (by simp)), new_at _ _ _ (by simp), by go_grown⟩
        go_enter Tryz.func45, Tryz.ntmps45
        go_wp2_with fail
        refine (D22.out _).mono ?_
        rintro e w1 ⟨rfl, hb1⟩
        have I1 := Lib.hid (I0.out.below hb1)
        clear hb1
        have a0 : w1.cell? ⟨w.heap.size, 0, none⟩ = some (.int .i64 ka) := (cell_of_row w1 _ 0 _ _ _ I1.out.1).trans rfl
        have a1 : w1.cell? ⟨w.heap.size, 1, none⟩ = some (.int .i64 na) := (cell_of_row w1 _ 1 _ _ _ I1.out.1).trans rfl
        have a2 : w1.cell? ⟨w.heap.size, 2, none⟩ = some (.string sa) := (cell_of_row w1 _ 2 _ _ _ I1.out.1).trans rfl
        have d0 : w1.cell? ⟨w.heap.size + 1, 0, none⟩ = some (.int .i64 kb) := (cell_of_row w1 _ 0 _ _ _ I1.out.2.1).trans rfl
        have d1 : w1.cell? ⟨w.heap.size + 1, 1, none⟩ = some (.int .i64 nb) := (cell_of_row w1 _ 1 _ _ _ I1.out.2.1).trans rfl
        have d2 : w1.cell? ⟨w.heap.size + 1, 2, none⟩ = some (.string sb) := (cell_of_row w1 _ 2 _ _ _ I1.out.2.1).trans rfl
        go_wp2_with (refine store23 rfl (.tmp 4) (.tmp 33) rfl (w.heap.size + 2) (nullT) rfl rfl _ I1.out.2.2.1 ?_; intro wz hp; have HP := Lib.hid hp; clear hp)
        exact bodyPost_ret (ret23 rfl rfl HP.out.at') rfl ⟨by rw [HE.out], HP.out.low I1.out.2.2.2 (by omega)⟩
      | false =>
        have HE : Hid (mulT (K, n, s) (K', m, t) = numT 2 (wrap64 (n * m))) := Lib.hid (by unfold mulT; rw [h22]; dsimp only; rw [hbig, hq]; rfl)
        generalize mulT (K, n, s) (K', m, t) = R at HE ⊢
        clear hbig
        obtain ⟨A, eA⟩ : ∃ A, max n (-n) = A := ⟨_, rfl⟩
        obtain ⟨B, eB⟩ : ∃ B, max m (-m) = B := ⟨_, rfl⟩
        obtain ⟨Q, eQ⟩ : ∃ Q : Int, 999999999999999 / A = Q := ⟨_, rfl⟩
        rw [eA, eB, eQ] at hq
        rw [eA] at hA1 hA2
        rw [eB] at hB1 hB2
        have hq' : ¬ Q < B := by simpa using hq
        clear hq
        obtain ⟨ka, na, sa⟩ := x
        obtain ⟨kb, nb, sb⟩ := y
        have D22 : Hid (∀ w, Calls Tryz.prog 122 #[val ka na sa, .int .i64 2, val kb nb sb, .int .i64 2] w fun e w' => e = .returned (.tuple #[.int .i64 n, .int .i64 m, .bool true]) ∧ Below w.heap.size w w') := by rw [h22] at C22; exact C22
        clear C22
        clear h22
        change Calls Tryz.prog 45 #[val ka na sa, val kb nb sb] w _
        have I0 : Hid (In3 (ka, na, sa) (kb, nb, sb) w (((w.alloc (.cells #[.int .i64 ka, .int .i64 na, .string sa] 23)).alloc (.cells #[.int .i64 kb, .int .i64 nb, .string sb] 23)).alloc (.cells #[.int .i64 0, .int .i64 0, .string ⟨#[]⟩] 23))) := Lib.hid ⟨(heap_alloc_old _ _ (by simp only [World.size_alloc]; omega)).trans ((heap_alloc_old _ _ (by simp)).trans (heap_alloc_new w _)), (heap_alloc_old _ _ (by simp)).trans (new_at _ _ _ (by simp)), new_at _ _ _ (by simp), by go_grown⟩
        go_enter Tryz.func45, Tryz.ntmps45
        go_wp2_with fail
        refine (D22.out _).mono ?_
        rintro e w1 ⟨rfl, hb1⟩
        have I1 := Lib.hid (I0.out.below hb1)
        clear hb1
        have a0 : w1.cell? ⟨w.heap.size, 0, none⟩ = some (.int .i64 ka) := (cell_of_row w1 _ 0 _ _ _ I1.out.1).trans rfl
        have a1 : w1.cell? ⟨w.heap.size, 1, none⟩ = some (.int .i64 na) := (cell_of_row w1 _ 1 _ _ _ I1.out.1).trans rfl
        have a2 : w1.cell? ⟨w.heap.size, 2, none⟩ = some (.string sa) := (cell_of_row w1 _ 2 _ _ _ I1.out.1).trans rfl
        have d0 : w1.cell? ⟨w.heap.size + 1, 0, none⟩ = some (.int .i64 kb) := (cell_of_row w1 _ 0 _ _ _ I1.out.2.1).trans rfl
        have d1 : w1.cell? ⟨w.heap.size + 1, 1, none⟩ = some (.int .i64 nb) := (cell_of_row w1 _ 1 _ _ _ I1.out.2.1).trans rfl
        have d2 : w1.cell? ⟨w.heap.size + 1, 2, none⟩ = some (.string sb) := (cell_of_row w1 _ 2 _ _ _ I1.out.2.1).trans rfl
        go_wp2_with fail
        refine (number_t _ _ _).mono ?_
        rintro e w2 ⟨rfl, hb2⟩
        have I2 := Lib.hid (I1.out.below hb2)
        clear hb2
        go_wp2_with (refine store23 rfl (.tmp 4) (.tmp 37) rfl (w.heap.size + 2) (numT 2 (wrap64 (n * m))) rfl rfl _ I2.out.2.2.1 ?_; intro wz hp; have HP := Lib.hid hp; clear hp)
        exact bodyPost_ret (ret23 rfl rfl HP.out.at') rfl ⟨by rw [HE.out], HP.out.low I2.out.2.2.2 (by omega)⟩
end YtabojeleomfgnaaGreatDoor
end Go.Proofs
