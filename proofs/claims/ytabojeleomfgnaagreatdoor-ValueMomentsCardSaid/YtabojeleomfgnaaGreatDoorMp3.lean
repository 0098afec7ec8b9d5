/- Months. Months, by the reference. -/
import Derived.Test.YtabojeleomfgnaaGreatDoorMp2
namespace Go.Proofs
open Go.RowKit
namespace YtabojeleomfgnaaGreatDoor
set_option maxRecDepth 100000
theorem wrap_in (n : Int) (h : -9223372036854775808 ≤ n ∧ n ≤ 9223372036854775807) : wrap64 n = n := by unfold wrap64; omega
theorem fdiv12 (k : Int) (h0 : -4611686018427387904 ≤ k) (h1 : k ≤ 4611686018427387904) : fdiv k 12 = k / 12 := by
  unfold fdiv
  by_cases h : 0 ≤ k
  · rw [Int.tdiv_eq_ediv_of_nonneg h, Int.tmod_eq_emod_of_nonneg h, if_neg (by simp; omega), wrap_in _ (by omega)]
  · obtain ⟨j, hj, rfl⟩ : ∃ j : Int, 0 < j ∧ k = -j := ⟨-k, by omega, by omega⟩
    rw [Int.neg_tdiv, Int.neg_tmod, Int.tdiv_eq_ediv_of_nonneg (by omega), Int.tmod_eq_emod_of_nonneg (by omega)]
    by_cases hz : j % 12 = 0
    · rw [if_neg (by simp [hz]), wrap_in _ (by omega)]
      omega
    · rw [if_pos (by simp; omega), wrap_in (-(j / 12)) (by omega), wrap_in _ (by omega)]
      omega
/-- so many months later than n, k months behind the year 0 -/
noncomputable def atK (n k : Int) : V3 := datedT (k / 12) (k - 12 * (k / 12) + 1) (min (dOf n) (mdays (k / 12) (k - 12 * (k / 12) + 1))) (hourOf n) (minOf n) (secOf n)
noncomputable def laterT (X Y : V3) : V3 := if okB X Y 4 2 = true then atK X.2.1 (yOf X.2.1 * 12 + mOf X.2.1 - 1 + Y.2.1) else nullT
theorem later_yes {K n K' m : Int} {s t : ByteArray} (h : okB (K, n, s) (K', m, t) 4 2 = true) : laterT (K, n, s) (K', m, t) = datedT ((yOf n * 12 + mOf n - 1 + m) / 12) (yOf n * 12 + mOf n - 1 + m - 12 * ((yOf n * 12 + mOf n - 1 + m) / 12) + 1) (min (dOf n) (mdays ((yOf n * 12 + mOf n - 1 + m) / 12) (yOf n * 12 + mOf n - 1 + m - 12 * ((yOf n * 12 + mOf n - 1 + m) / 12) + 1))) (hourOf n) (minOf n) (secOf n) := by
  unfold laterT
  rw [if_pos h]
  rfl
/-- a box of six numbers beside the three -/
def Td (T : TypeId) (g : Nat) (row : Array Value) (x y : V3) (w0 w : World) : Prop := w.heap[g]? = some (.cells row T (0, 0)) ∧ w0.heap.size + 2 < g ∧ In3 x y w0 w
theorem Td.first {T : TypeId} {C D : Array Value} {o : Obj} {x y : V3} {w0 w2 w3 : World} (hI : In3 x y w0 w2) (hp : Puts w2.heap.size C T (w2.alloc o) w3) (hC : C = D) : Td T w2.heap.size D x y w0 w3 := by
  subst hC
  exact ⟨hp.at', lt_of_block hI.2.2.1, hI.below (hp.below ((Below.refl _ _).alloc (Nat.le_refl _) o) (Nat.le_refl _))⟩
theorem Td.puts {T : TypeId} {g : Nat} {row C D : Array Value} {x y : V3} {w0 w w' : World} (h : Td T g row x y w0 w) (hp : Puts g C T w w') (hC : C = D) : Td T g D x y w0 w' := by
  subst hC
  have hg := h.2.1
  exact ⟨hp.at', h.2.1, (hp.keeps.block _ (lt_of_block h.2.2.1) (by omega)).trans h.2.2.1, (hp.keeps.block _ (lt_of_block h.2.2.2.1) (by omega)).trans h.2.2.2.1, (hp.keeps.block _ (lt_of_block h.2.2.2.2.1) (by omega)).trans h.2.2.2.2.1, hp.below h.2.2.2.2.2 (by omega)⟩
theorem Td.below {T : TypeId} {g : Nat} {row : Array Value} {x y : V3} {w0 w w' : World} (h : Td T g row x y w0 w) (hb : Below w.heap.size w w') : Td T g row x y w0 w' := ⟨(hb.block _ (lt_of_block h.1)).trans h.1, h.2.1, h.2.2.below hb⟩
theorem Td.drew {T : TypeId} {g : Nat} {row : Array Value} {x y : V3} {w0 w : World} (h : Td T g row x y w0 w) : Td T g row x y w0 w.drew := ⟨h.1, h.2.1, h.2.2.drew⟩
/-- the two stores behind 'a, b = clean(a), clean(b)', a result's box beside them -/
theorem tail3m {ops : Array Oper} {o p : Oper} {u v u' v' : Operand} {a : Act} {Q : Exit → Act → World → Prop} {w0 w1 : World} {x y x' y' : V3}
    (ho : o.op = .store 23 u v) (hg : o.guard = none) (hd : o.dst = none) (hp : p.op = .store 23 u' v') (hgp : p.guard = none) (hdp : p.dst = none)
    (hx : a.eval u = .pointer (some ⟨w0.heap.size, 0, none⟩)) (hy : a.eval v = toV x') (hx' : a.eval u' = .pointer (some ⟨w0.heap.size + 1, 0, none⟩)) (hy' : a.eval v' = toV y')
    (hI : In3 x y w0 w1) (h : ∀ w2, In3 x' y' w0 w2 → Q .normal a w2) : wpList Tryz.prog ops Q [o, p] a w1 := by
  have put : ∀ v, a.put none v = a := fun _ => rfl
  refine store23 hg u v ho w0.heap.size x' hx hy x hI.1 ?_
  intro x1 hP
  have hB1 := (hP.keeps.block _ (lt_of_block hI.2.1) (by omega)).trans hI.2.1
  have hC1 := (hP.keeps.block _ (lt_of_block hI.2.2.1) (by omega)).trans hI.2.2.1
  have hL1 := hP.below hI.2.2.2 (Nat.le_refl _)
  rw [hd, put]
  refine store23 hgp u' v' hp (w0.heap.size + 1) y' hx' hy' y hB1 ?_
  intro x2 hP2
  rw [hdp, put]
  exact h x2 ⟨(hP2.keeps.block _ (lt_of_block hP.at') (by omega)).trans hP.at', hP2.at', (hP2.keeps.block _ (lt_of_block hC1) (by omega)).trans hC1, hP2.below hL1 (by omega)⟩
theorem run_load3 {C : World → Prop} {o : Oper} {a : Act} (x : Operand) (ho : o.op = .load 3 x) (g i : Nat) (n : Int) (hx : a.eval x = .pointer (some ⟨g, i, none⟩)) (hS : ∀ w, C w → w.cell? ⟨g, i, none⟩ = some (.int .i64 n)) (w : World) (hw : C w) :
    (execOp a.eval o).run Tryz.prog w = .ok (.value (.int .i64 n)) w := by
  have c := hS w hw
  unfold execOp
  simp only [ho, hx]
  go_simp
set_option maxHeartbeats 4000000 in
theorem months_t (x y : V3) (hx : Sz x) (hy : Sz y) (w : World) : Calls Tryz.prog 65 #[toV x, toV y] w fun e w' => e = .returned (toV (laterT (clT x) (clT y))) ∧ Below w.heap.size w w' := by
  have A0 : Hid (∀ k l w, Calls Tryz.prog 122 #[toV x, .int .i64 k, toV y, .int .i64 l] w fun e w' => e = .returned (.tuple #[.int .i64 (onlyIf (okB (clT x) (clT y) k l) (clT x).2.1), .int .i64 (onlyIf (okB (clT x) (clT y) k l) (clT y).2.1), .bool (okB (clT x) (clT y) k l)]) ∧ Below w.heap.size w w') := Lib.hid (fun k l w => numbers_t x y k l hx hy w)
  have C42 := Lib.hid (A0.out 4 2)
  clear A0 hx hy
  have RX := Lib.hid (clT_right x)
  have RY := Lib.hid (clT_right y)
  generalize clT x = X at *
  generalize clT y = Y at *
  obtain ⟨K, n, s⟩ := X
  obtain ⟨K', m, t⟩ := Y
  cases h42 : okB (K, n, s) (K', m, t) 4 2 with
  | false =>
    have HE : Hid (laterT (K, n, s) (K', m, t) = nullT) := Lib.hid (by unfold laterT; rw [h42]; rfl)
    generalize laterT (K, n, s) (K', m, t) = R at HE ⊢
    clear RX RY
    obtain ⟨ka, na, sa⟩ := x
    obtain ⟨kb, nb, sb⟩ := y
    have D42 : Hid (∀ w, Calls Tryz.prog 122 #[val ka na sa, .int .i64 4, val kb nb sb, .int .i64 2] w fun e w' => e = .returned (.tuple #[.int .i64 0, .int .i64 0, .bool false]) ∧ Below w.heap.size w w') := by rw [h42] at C42; exact C42
    clear C42
    clear h42
    change Calls Tryz.prog 65 #[val ka na sa, val kb nb sb] w _
    have I0 : Hid (In3 (ka, na, sa) (kb, nb, sb) w (((w.alloc (.cells #[.int .i64 ka, .int .i64 na, .string sa] 23)).alloc (.cells #[.int .i64 kb, .int .i64 nb, .string sb] 23)).alloc (.cells #[.int .i64 0, .int .i64 0, .string ⟨#[]⟩] 23))) := Lib.hid ⟨(heap_alloc_old _ _ (by simp only [World.size_alloc]; omega)).trans ((heap_alloc_old _ _ (by simp)).trans (heap_alloc_new w _)), (heap_alloc_old _ _ (by simp)).trans (new_at _ _ _ (by simp)), new_at _ _ _ (by simp), by go_grown⟩
    go_enter Tryz.func65, Tryz.ntmps65
    go_wp2_with fail
    refine (D42.out _).mono ?_
    rintro e w1 ⟨rfl, hb1⟩
    have I1 := Lib.hid (I0.out.below hb1)
    clear hb1
    have a0 : w1.cell? ⟨w.heap.size, 0, none⟩ = some (.int .i64 ka) := (cell_of_row w1 _ 0 _ _ _ I1.out.1).trans rfl
    have a1 : w1.cell? ⟨w.heap.size, 1, none⟩ = some (.int .i64 na) := (cell_of_row w1 _ 1 _ _ _ I1.out.1).trans rfl
    have a2 : w1.cell? ⟨w.heap.size, 2, none⟩ = some (.string sa) := (cell_of_row w1 _ 2 _ _ _ I1.out.1).trans rfl
    have d0 : w1.cell? ⟨w.heap.size + 1, 0, none⟩ = some (.int .i64 kb) := (cell_of_row w1 _ 0 _ _ _ I1.out.2.1).trans rfl
    have d1 : w1.cell? ⟨w.heap.size + 1, 1, none⟩ = some (.int .i64 nb) := (cell_of_row w1 _ 1 _ _ _ I1.out.2.1).trans rfl
    have d2 : w1.cell? ⟨w.heap.size + 1, 2, none⟩ = some (.string sb) := (cell_of_row w1 _ 2 _ _ _ I1.out.2.1).trans rfl
    go_wp2_with (refine store23 rfl (.tmp 4) (.tmp 19) rfl (w.heap.size + 2) (nullT) rfl rfl _ I1.out.2.2.1 ?_; intro wz hp; have HP := Lib.hid hp; clear hp)
    exact bodyPost_ret (ret23 rfl rfl HP.out.at') rfl ⟨by rw [HE.out], HP.out.low I1.out.2.2.2 (by omega)⟩
  | true =>
    have HE := Lib.hid (later_yes h42)
    generalize laterT (K, n, s) (K', m, t) = R at HE ⊢
    obtain ⟨hK, hK'⟩ : K = 4 ∧ K' = 2 := by unfold okB at h42; simpa using h42
    obtain ⟨n0, n1, _⟩ := RX.out.moment hK
    obtain ⟨_, _, m0, m1, _⟩ := RY.out.bounds
    dsimp only at n0 n1 m0 m1
    have CD := Lib.hid (fun w => dateOf_t n n0 n1 w)
    have q9 := day_year (day_is n n0 n1) (by omega)
    obtain ⟨q1, q2, q3, q4, q5, _⟩ := day_is n n0 n1
    clear q4 q5
    obtain ⟨ka, na, sa⟩ := x
    obtain ⟨kb, nb, sb⟩ := y
    have D42 : Hid (∀ w, Calls Tryz.prog 122 #[val ka na sa, .int .i64 4, val kb nb sb, .int .i64 2] w fun e w' => e = .returned (.tuple #[.int .i64 n, .int .i64 m, .bool true]) ∧ Below w.heap.size w w') := by rw [h42] at C42; exact C42
    clear C42
    clear h42 RX RY hK hK'
    generalize yOf n = Y at *
    generalize mOf n = M at *
    generalize dOf n = D at *
    generalize hourOf n = H at *
    generalize minOf n = I at *
    generalize secOf n = SS at *
    have b0 : 0 ≤ Y * 12 + M - 1 := by omega
    have b1 : Y * 12 + M - 1 ≤ 200000 := by omega
    have CF := Lib.hid (fun w => fdiv_t (Y * 12 + M - 1 + m) 12 (by omega) w)
    rw [fdiv12 _ (by omega) (by omega)] at CF
    obtain ⟨q, hq⟩ : ∃ q : Int, (Y * 12 + M - 1 + m) / 12 = q := ⟨_, rfl⟩
    have h12a : 12 * q ≤ Y * 12 + M - 1 + m := by omega
    have h12b : Y * 12 + M - 1 + m < 12 * q + 12 := by omega
    rw [hq] at CF HE
    clear hq
    change Calls Tryz.prog 65 #[val ka na sa, val kb nb sb] w _
    have I0 : Hid (In3 (ka, na, sa) (kb, nb, sb) w (((w.alloc (.cells #[.int .i64 ka, .int .i64 na, .string sa] 23)).alloc (.cells #[.int .i64 kb, .int .i64 nb, .string sb] 23)).alloc (.cells #[.int .i64 0, .int .i64 0, .string ⟨#[]⟩] 23))) := Lib.hid ⟨(heap_alloc_old _ _ (by simp only [World.size_alloc]; omega)).trans ((heap_alloc_old _ _ (by simp)).trans (heap_alloc_new w _)), (heap_alloc_old _ _ (by simp)).trans (new_at _ _ _ (by simp)), new_at _ _ _ (by simp), by go_grown⟩
    go_enter Tryz.func65, Tryz.ntmps65
    go_wp2_with fail
    refine (D42.out _).mono ?_
    rintro e w1 ⟨rfl, hb1⟩
    have I1 := Lib.hid (I0.out.below hb1)
    clear hb1
    have a0 : w1.cell? ⟨w.heap.size, 0, none⟩ = some (.int .i64 ka) := (cell_of_row w1 _ 0 _ _ _ I1.out.1).trans rfl
    have a1 : w1.cell? ⟨w.heap.size, 1, none⟩ = some (.int .i64 na) := (cell_of_row w1 _ 1 _ _ _ I1.out.1).trans rfl
    have a2 : w1.cell? ⟨w.heap.size, 2, none⟩ = some (.string sa) := (cell_of_row w1 _ 2 _ _ _ I1.out.1).trans rfl
    have d0 : w1.cell? ⟨w.heap.size + 1, 0, none⟩ = some (.int .i64 kb) := (cell_of_row w1 _ 0 _ _ _ I1.out.2.1).trans rfl
    have d1 : w1.cell? ⟨w.heap.size + 1, 1, none⟩ = some (.int .i64 nb) := (cell_of_row w1 _ 1 _ _ _ I1.out.2.1).trans rfl
    have d2 : w1.cell? ⟨w.heap.size + 1, 2, none⟩ = some (.string sb) := (cell_of_row w1 _ 2 _ _ _ I1.out.2.1).trans rfl
    go_wp2_with fail
    refine (CD.out _).mono ?_
    rintro e w2 ⟨rfl, hb2⟩
    have I2 := Lib.hid (I1.out.below hb2)
    clear hb2 a0 a1 a2 d0 d1 d2
    go_wp2_with (refine store120 rfl (.tmp 8) (.tmp 21) rfl w2.heap.size Y M D H I SS rfl rfl 0 0 0 0 0 0 (new_at _ _ _ rfl) ?_; intro w3 hp; have T3 := Lib.hid (Td.first (D := six Y M D H I SS) I2.out hp rfl); clear hp; have c0 : w3.cell? ⟨w2.heap.size, 0, none⟩ = some (.int .i64 (Y)) := (cell_of_row w3 _ 0 _ _ _ T3.out.1).trans rfl; have c1 : w3.cell? ⟨w2.heap.size, 1, none⟩ = some (.int .i64 (M)) := (cell_of_row w3 _ 1 _ _ _ T3.out.1).trans rfl; have c2 : w3.cell? ⟨w2.heap.size, 2, none⟩ = some (.int .i64 (D)) := (cell_of_row w3 _ 2 _ _ _ T3.out.1).trans rfl; have c3 : w3.cell? ⟨w2.heap.size, 3, none⟩ = some (.int .i64 (H)) := (cell_of_row w3 _ 3 _ _ _ T3.out.1).trans rfl; have c4 : w3.cell? ⟨w2.heap.size, 4, none⟩ = some (.int .i64 (I)) := (cell_of_row w3 _ 4 _ _ _ T3.out.1).trans rfl; have c5 : w3.cell? ⟨w2.heap.size, 5, none⟩ = some (.int .i64 (SS)) := (cell_of_row w3 _ 5 _ _ _ T3.out.1).trans rfl)
    refine (CF.out _).mono ?_
    rintro e w4 ⟨rfl, hb4⟩
    have T4 := Lib.hid (T3.out.below hb4)
    clear hb4 c0 c1 c2 c3 c4 c5
    have c0 : w4.cell? ⟨w2.heap.size, 0, none⟩ = some (.int .i64 (Y)) := (cell_of_row w4 _ 0 _ _ _ T4.out.1).trans rfl
    have c1 : w4.cell? ⟨w2.heap.size, 1, none⟩ = some (.int .i64 (M)) := (cell_of_row w4 _ 1 _ _ _ T4.out.1).trans rfl
    have c2 : w4.cell? ⟨w2.heap.size, 2, none⟩ = some (.int .i64 (D)) := (cell_of_row w4 _ 2 _ _ _ T4.out.1).trans rfl
    have c3 : w4.cell? ⟨w2.heap.size, 3, none⟩ = some (.int .i64 (H)) := (cell_of_row w4 _ 3 _ _ _ T4.out.1).trans rfl
    have c4 : w4.cell? ⟨w2.heap.size, 4, none⟩ = some (.int .i64 (I)) := (cell_of_row w4 _ 4 _ _ _ T4.out.1).trans rfl
    have c5 : w4.cell? ⟨w2.heap.size, 5, none⟩ = some (.int .i64 (SS)) := (cell_of_row w4 _ 5 _ _ _ T4.out.1).trans rfl
    go_wp2_with (first | (refine store_int rfl (.tmp 33) (.tmp 32) rfl w2.heap.size 0 q rfl rfl (six (Y) (M) (D) (H) (I) (SS)) 120 T4.out.1 (by simp) ?_; intro w5 hp; have T5 := Lib.hid (T4.out.puts (D := six (q) (M) (D) (H) (I) (SS)) hp rfl); clear hp c0 c1 c2 c3 c4 c5; have c0 : w5.cell? ⟨w2.heap.size, 0, none⟩ = some (.int .i64 (q)) := (cell_of_row w5 _ 0 _ _ _ T5.out.1).trans rfl; have c1 : w5.cell? ⟨w2.heap.size, 1, none⟩ = some (.int .i64 (M)) := (cell_of_row w5 _ 1 _ _ _ T5.out.1).trans rfl; have c2 : w5.cell? ⟨w2.heap.size, 2, none⟩ = some (.int .i64 (D)) := (cell_of_row w5 _ 2 _ _ _ T5.out.1).trans rfl; have c3 : w5.cell? ⟨w2.heap.size, 3, none⟩ = some (.int .i64 (H)) := (cell_of_row w5 _ 3 _ _ _ T5.out.1).trans rfl; have c4 : w5.cell? ⟨w2.heap.size, 4, none⟩ = some (.int .i64 (I)) := (cell_of_row w5 _ 4 _ _ _ T5.out.1).trans rfl; have c5 : w5.cell? ⟨w2.heap.size, 5, none⟩ = some (.int .i64 (SS)) := (cell_of_row w5 _ 5 _ _ _ T5.out.1).trans rfl) | (refine store_int rfl (.tmp 40) (.tmp 39) rfl w2.heap.size 1 (Y * 12 + M - 1 + m - 12 * q + 1) rfl rfl (six (q) (M) (D) (H) (I) (SS)) 120 T5.out.1 (by simp) ?_; intro w6 hp; have T6 := Lib.hid (T5.out.puts (D := six (q) (Y * 12 + M - 1 + m - 12 * q + 1) (D) (H) (I) (SS)) hp rfl); clear hp c0 c1 c2 c3 c4 c5))
    generalize Y * 12 + M - 1 + m - 12 * q + 1 = MM at *
    have CM := Lib.hid (fun w => mdays_t q MM w)
    generalize mdays q MM = L at *
    refine region_tail (Td 120 w2.heap.size (six (q) (MM) (D) (H) (I) (SS)) (ka, na, sa) (kb, nb, sb) w) 9 (by kernel_rfl) (by kernel_rfl) T6.out.drew ?_
    simp only [List.take_succ_cons, List.take_zero, List.drop_succ_cons, List.drop_zero]
    refine s_val (.pointer (some ⟨w2.heap.size, 2, none⟩)) (by rfl) (fun w' _ => by go_simp) ?_
    simp only [Act.put, List.setIfInBounds_toArray, List.set_cons_zero, List.set_cons_succ]
    refine s_val (.int .i64 D) (by rfl) (run_load3 (.tmp 41) rfl w2.heap.size 2 D rfl (fun w h => (cell_of_row w _ 2 _ _ _ h.1).trans rfl)) ?_
    simp only [Act.put, List.setIfInBounds_toArray, List.set_cons_zero, List.set_cons_succ]
    refine s_val (.pointer (some ⟨w2.heap.size, 0, none⟩)) (by rfl) (fun w' _ => by go_simp) ?_
    simp only [Act.put, List.setIfInBounds_toArray, List.set_cons_zero, List.set_cons_succ]
    refine s_val (.int .i64 q) (by rfl) (run_load3 (.tmp 43) rfl w2.heap.size 0 q rfl (fun w h => (cell_of_row w _ 0 _ _ _ h.1).trans rfl)) ?_
    simp only [Act.put, List.setIfInBounds_toArray, List.set_cons_zero, List.set_cons_succ]
    refine s_val (.pointer (some ⟨w2.heap.size, 1, none⟩)) (by rfl) (fun w' _ => by go_simp) ?_
    simp only [Act.put, List.setIfInBounds_toArray, List.set_cons_zero, List.set_cons_succ]
    refine s_val (.int .i64 MM) (by rfl) (run_load3 (.tmp 45) rfl w2.heap.size 1 MM rfl (fun w h => (cell_of_row w _ 1 _ _ _ h.1).trans rfl)) ?_
    simp only [Act.put, List.setIfInBounds_toArray, List.set_cons_zero, List.set_cons_succ]
    refine s_call (.int .i64 L) 138 #[.int .i64 q, .int .i64 MM] (by rfl) (fun w => by go_simp) (fun w' h => (CM.out w').mono fun e x hx => ⟨hx.1, by rw [hx.2]; exact h⟩) ?_
    simp only [Act.put, List.setIfInBounds_toArray, List.set_cons_zero, List.set_cons_succ]
    refine s_val (.int .i64 (min D L)) (by rfl) (fun w' _ => by go_simp) ?_
    simp only [Act.put, List.setIfInBounds_toArray, List.set_cons_zero, List.set_cons_succ]
    refine s_val (.pointer (some ⟨w2.heap.size, 2, none⟩)) (by rfl) (fun w' _ => by go_simp) ?_
    simp only [Act.put, List.setIfInBounds_toArray, List.set_cons_zero, List.set_cons_succ]
    refine s_done ?_
    intro w7 hT
    have T7 := Lib.hid hT
    clear hT
    refine store_int rfl (.tmp 49) (.tmp 48) rfl w2.heap.size 2 (min D L) rfl rfl (six (q) (MM) (D) (H) (I) (SS)) 120 T7.out.1 (by simp) ?_
    intro w8 hp
    have T8 := Lib.hid (T7.out.puts (D := six (q) (MM) (min D L) (H) (I) (SS)) hp rfl)
    clear hp
    have c0 : w8.cell? ⟨w2.heap.size, 0, none⟩ = some (.int .i64 (q)) := (cell_of_row w8 _ 0 _ _ _ T8.out.1).trans rfl
    have c1 : w8.cell? ⟨w2.heap.size, 1, none⟩ = some (.int .i64 (MM)) := (cell_of_row w8 _ 1 _ _ _ T8.out.1).trans rfl
    have c2 : w8.cell? ⟨w2.heap.size, 2, none⟩ = some (.int .i64 (min D L)) := (cell_of_row w8 _ 2 _ _ _ T8.out.1).trans rfl
    have c3 : w8.cell? ⟨w2.heap.size, 3, none⟩ = some (.int .i64 (H)) := (cell_of_row w8 _ 3 _ _ _ T8.out.1).trans rfl
    have c4 : w8.cell? ⟨w2.heap.size, 4, none⟩ = some (.int .i64 (I)) := (cell_of_row w8 _ 4 _ _ _ T8.out.1).trans rfl
    have c5 : w8.cell? ⟨w2.heap.size, 5, none⟩ = some (.int .i64 (SS)) := (cell_of_row w8 _ 5 _ _ _ T8.out.1).trans rfl
    have CO := Lib.hid (fun w => momentOf_t q MM (min D L) H I SS w)
    generalize min D L = DL at *
    go_wp2_with fail
    refine (CO.out _).mono ?_
    rintro e w9 ⟨rfl, hb9⟩
    have I9 := Lib.hid (T8.out.below hb9).2.2
    clear hb9 c0 c1 c2 c3 c4 c5
    go_wp2_with (refine store23 rfl (.tmp 4) (.tmp 51) rfl (w.heap.size + 2) (datedT q MM DL H I SS) rfl rfl _ I9.out.2.2.1 ?_; intro wz hp; have HP := Lib.hid hp; clear hp)
    exact bodyPost_ret (ret23 rfl rfl HP.out.at') rfl ⟨by rw [HE.out], HP.out.low I9.out.2.2.2 (by omega)⟩
end YtabojeleomfgnaaGreatDoor
end Go.Proofs
namespace Go.Proofs
open Go.RowKit
namespace YtabojeleomfgnaaGreatDoor
set_option maxRecDepth 100000
set_option maxHeartbeats 4000000 in
theorem later_t (x y : V3) (hx : Sz x) (hy : Sz y) (w : World) : Calls Tryz.prog 66 #[toV x, toV y] w fun e w' => e = .returned (toV (laterT (clT x) (clT y))) ∧ Below w.heap.size w w' := by
  have CX := Lib.hid (fun w => right_t x hx w)
  have CY := Lib.hid (fun w => right_t y hy w)
  have RX := Lib.hid (clT_right x)
  have RY := Lib.hid (clT_right y)
  clear hx hy
  generalize clT x = X at *
  generalize clT y = Y at *
  obtain ⟨K, n, s⟩ := X
  obtain ⟨K', m, t⟩ := Y
  obtain ⟨ka, na, sa⟩ := x
  obtain ⟨kb, nb, sb⟩ := y
  change Calls Tryz.prog 66 #[val ka na sa, val kb nb sb] w _
  have HE := Lib.hid (show laterT (K, n, s) (K', m, t) = laterT (K, n, s) (K', m, t) from rfl)
  generalize hR : laterT (K, n, s) (K', m, t) = R at HE ⊢
  clear HE
  have HR := Lib.hid hR
  clear hR
  have I0 : Hid (In3 (ka, na, sa) (kb, nb, sb) w (((w.alloc (.cells #[.int .i64 ka, .int .i64 na, .string sa] 23)).alloc (.cells #[.int .i64 kb, .int .i64 nb, .string sb] 23)).alloc (.cells #[.int .i64 0, .int .i64 0, .string ⟨#[]⟩] 23))) := Lib.hid ⟨(heap_alloc_old _ _ (by simp only [World.size_alloc]; omega)).trans ((heap_alloc_old _ _ (by simp)).trans (heap_alloc_new w _)), (heap_alloc_old _ _ (by simp)).trans (new_at _ _ _ (by simp)), new_at _ _ _ (by simp), by go_grown⟩
  go_enter Tryz.func66, Tryz.ntmps66
  go_wp2_with fail
  refine region_tail (In3 (ka, na, sa) (kb, nb, sb) w) 4 (by kernel_rfl) (by kernel_rfl) I0.out.drew ?_
  simp only [List.take_succ_cons, List.take_zero, List.drop_succ_cons, List.drop_zero]
  refine s_val (toV (ka, na, sa)) (by rfl) (run_load23 (.tmp 2) rfl w.heap.size _ rfl rfl (fun w h => h.1)) ?_
  simp only [Act.put, List.setIfInBounds_toArray, List.set_cons_zero, List.set_cons_succ]
  refine s_call (toV (K, n, s)) 97 #[toV (ka, na, sa)] (by rfl) (fun w => by go_simp) (fun w' h => (CX.out w').mono fun e x hx => ⟨hx.1, h.below hx.2⟩) ?_
  simp only [Act.put, List.setIfInBounds_toArray, List.set_cons_zero, List.set_cons_succ]
  refine s_val (toV (kb, nb, sb)) (by rfl) (run_load23 (.tmp 3) rfl (w.heap.size + 1) _ rfl rfl (fun w h => h.2.1)) ?_
  simp only [Act.put, List.setIfInBounds_toArray, List.set_cons_zero, List.set_cons_succ]
  refine s_call (toV (K', m, t)) 97 #[toV (kb, nb, sb)] (by rfl) (fun w => by go_simp) (fun w' h => (CY.out w').mono fun e x hx => ⟨hx.1, h.below hx.2⟩) ?_
  simp only [Act.put, List.setIfInBounds_toArray, List.set_cons_zero, List.set_cons_succ]
  refine s_done ?_
  intro w1 hI1
  refine tail3m rfl rfl rfl rfl rfl rfl rfl rfl rfl rfl hI1 ?_
  intro w2 hI2
  clear hI1
  have I2 := Lib.hid hI2
  clear hI2
  have a0 : w2.cell? ⟨w.heap.size, 0, none⟩ = some (.int .i64 K) := (cell_of_row w2 _ 0 _ _ _ I2.out.1).trans rfl
  have a1 : w2.cell? ⟨w.heap.size, 1, none⟩ = some (.int .i64 n) := (cell_of_row w2 _ 1 _ _ _ I2.out.1).trans rfl
  have a2 : w2.cell? ⟨w.heap.size, 2, none⟩ = some (.string s) := (cell_of_row w2 _ 2 _ _ _ I2.out.1).trans rfl
  have d0 : w2.cell? ⟨w.heap.size + 1, 0, none⟩ = some (.int .i64 K') := (cell_of_row w2 _ 0 _ _ _ I2.out.2.1).trans rfl
  have d1 : w2.cell? ⟨w.heap.size + 1, 1, none⟩ = some (.int .i64 m) := (cell_of_row w2 _ 1 _ _ _ I2.out.2.1).trans rfl
  have d2 : w2.cell? ⟨w.heap.size + 1, 2, none⟩ = some (.string t) := (cell_of_row w2 _ 2 _ _ _ I2.out.2.1).trans rfl
  cases hk : (K != 4) with
  | true =>
    have HN : Hid (R = nullT) := Lib.hid (by rw [← HR.out]; unfold laterT okB; dsimp only; rw [hk]; rfl)
    clear HR RX RY
    go_wp2_with (refine store23 rfl (.tmp 4) (.tmp 21) rfl (w.heap.size + 2) (nullT) rfl rfl _ I2.out.2.2.1 ?_; intro wz hp; have HP := Lib.hid hp; clear hp)
    exact bodyPost_ret (ret23 rfl rfl HP.out.at') rfl ⟨by rw [HN.out], HP.out.low I2.out.2.2.2 (by omega)⟩
  | false =>
    cases hl : (K' != 2) with
    | true =>
      have HN : Hid (R = nullT) := Lib.hid (by rw [← HR.out]; unfold laterT okB; dsimp only; rw [hk, hl]; rfl)
      clear HR RX RY
      go_wp2_with (refine store23 rfl (.tmp 4) (.tmp 21) rfl (w.heap.size + 2) (nullT) rfl rfl _ I2.out.2.2.1 ?_; intro wz hp; have HP := Lib.hid hp; clear hp)
      exact bodyPost_ret (ret23 rfl rfl HP.out.at') rfl ⟨by rw [HN.out], HP.out.low I2.out.2.2.2 (by omega)⟩
    | false =>
      have h42 : okB (K, n, s) (K', m, t) 4 2 = true := by unfold okB; dsimp only; rw [hk, hl]; rfl
      have HE : Hid (R = _) := Lib.hid (HR.out.symm.trans (later_yes h42))
      clear HR
      obtain ⟨hK, hK'⟩ : K = 4 ∧ K' = 2 := by unfold okB at h42; simpa using h42
      obtain ⟨n0, n1, _⟩ := RX.out.moment hK
      obtain ⟨_, _, m0, m1, _⟩ := RY.out.bounds
      dsimp only at n0 n1 m0 m1
      have CD := Lib.hid (fun w => parts_t n n0 n1 w)
      have q9 := day_year (day_is n n0 n1) (by omega)
      obtain ⟨q1, q2, q3, q4, q5, _⟩ := day_is n n0 n1
      clear q4 q5
      clear h42 RX RY hK hK'
      generalize yOf n = Y at *
      generalize mOf n = M at *
      generalize dOf n = D at *
      generalize hourOf n = H at *
      generalize minOf n = I at *
      generalize secOf n = SS at *
      have b0 : 0 ≤ Y * 12 + M - 1 := by omega
      have b1 : Y * 12 + M - 1 ≤ 200000 := by omega
      have CF := Lib.hid (fun w => rfdiv_t (Y * 12 + M - 1 + m) 12 (by omega) w)
      rw [fdiv12 _ (by omega) (by omega)] at CF
      obtain ⟨q, hq⟩ : ∃ q : Int, (Y * 12 + M - 1 + m) / 12 = q := ⟨_, rfl⟩
      have h12a : 12 * q ≤ Y * 12 + M - 1 + m := by omega
      have h12b : Y * 12 + M - 1 + m < 12 * q + 12 := by omega
      rw [hq] at CF HE
      clear hq
      have CW := Lib.hid (fun w => rwithin_t q 1970 9999 w)
      go_wp2_with fail
      refine (CD.out _).mono ?_
      rintro e w3 ⟨rfl, hb3⟩
      have I3 := Lib.hid (I2.out.below hb3)
      clear hb3 a0 a1 a2 d0 d1 d2
      go_wp2_with (refine store123 rfl (.tmp 5) (.tmp 24) rfl w3.heap.size SS I H D M Y rfl rfl 0 0 0 0 0 0 (new_at _ _ _ rfl) ?_; intro w4 hp; have T4 := Lib.hid (Td.first (D := six (SS) (I) (H) (D) (M) (Y)) I3.out hp rfl); clear hp; have c0 : w4.cell? ⟨w3.heap.size, 0, none⟩ = some (.int .i64 (SS)) := (cell_of_row w4 _ 0 _ _ _ T4.out.1).trans rfl; have c1 : w4.cell? ⟨w3.heap.size, 1, none⟩ = some (.int .i64 (I)) := (cell_of_row w4 _ 1 _ _ _ T4.out.1).trans rfl; have c2 : w4.cell? ⟨w3.heap.size, 2, none⟩ = some (.int .i64 (H)) := (cell_of_row w4 _ 2 _ _ _ T4.out.1).trans rfl; have c3 : w4.cell? ⟨w3.heap.size, 3, none⟩ = some (.int .i64 (D)) := (cell_of_row w4 _ 3 _ _ _ T4.out.1).trans rfl; have c4 : w4.cell? ⟨w3.heap.size, 4, none⟩ = some (.int .i64 (M)) := (cell_of_row w4 _ 4 _ _ _ T4.out.1).trans rfl; have c5 : w4.cell? ⟨w3.heap.size, 5, none⟩ = some (.int .i64 (Y)) := (cell_of_row w4 _ 5 _ _ _ T4.out.1).trans rfl; have d0 : w4.cell? ⟨w.heap.size + 1, 0, none⟩ = some (.int .i64 K') := (cell_of_row w4 _ 0 _ _ _ T4.out.2.2.2.1).trans rfl; have d1 : w4.cell? ⟨w.heap.size + 1, 1, none⟩ = some (.int .i64 m) := (cell_of_row w4 _ 1 _ _ _ T4.out.2.2.2.1).trans rfl)
      refine (CF.out _).mono ?_
      rintro e w5 ⟨rfl, hb5⟩
      have T5 := Lib.hid (T4.out.below hb5)
      clear hb5 c0 c1 c2 c3 c4 c5 d0 d1
      go_wp2_with fail
      refine (CF.out _).mono ?_
      rintro e w6 ⟨rfl, hb6⟩
      have T6 := Lib.hid (T5.out.below hb6)
      clear hb6
      cases hw : (decide (1970 ≤ q) && decide (q ≤ 9999)) with
      | false =>
        rw [hw] at CW
        have HN : Hid (R = nullT) := Lib.hid (by rw [HE.out]; unfold datedT yearB; rw [hw]; rfl)
        clear hw HE
        go_wp2_with fail
        refine (CW.out _).mono ?_
        rintro e wx ⟨rfl, hwx⟩
        rw [hwx]
        clear hwx wx
        go_wp2_with (refine store23 rfl (.tmp 4) (.tmp 46) rfl (w.heap.size + 2) (nullT) rfl rfl _ T6.out.2.2.2.2.1 ?_; intro wz hp; have HP := Lib.hid hp; clear hp)
        exact bodyPost_ret (ret23 rfl rfl HP.out.at') rfl ⟨by rw [HN.out], HP.out.low T6.out.2.2.2.2.2 (by omega)⟩
      | true =>
        rw [hw] at CW
        clear hw
        go_wp2_with fail
        refine (CW.out _).mono ?_
        rintro e wx ⟨rfl, hwx⟩
        rw [hwx]
        clear hwx wx
        go_wp2_with fail
        generalize Y * 12 + M - 1 + m - 12 * q + 1 = MM at *
        have CM := Lib.hid (fun w => rmdays_t q MM w)
        have CO := Lib.hid (fun w => dated_t q MM (min D (mdays q MM)) H I SS w)
        generalize mdays q MM = L at *
        refine region_tail (Td 123 w3.heap.size (six (SS) (I) (H) (D) (M) (Y)) (K, n, s) (K', m, t) w) 15 (by kernel_rfl) (by kernel_rfl) T6.out.drew ?_
        simp only [List.take_succ_cons, List.take_zero, List.drop_succ_cons, List.drop_zero]
        refine s_val (.int .i64 q) (by rfl) (fun w' _ => by rfl) ?_
        simp only [Act.put, List.setIfInBounds_toArray, List.set_cons_zero, List.set_cons_succ]
        refine s_val (.int .i64 MM) (by rfl) (fun w' _ => by rfl) ?_
        simp only [Act.put, List.setIfInBounds_toArray, List.set_cons_zero, List.set_cons_succ]
        refine s_val (.pointer (some ⟨w3.heap.size, 3, none⟩)) (by rfl) (fun w' _ => by go_simp) ?_
        simp only [Act.put, List.setIfInBounds_toArray, List.set_cons_zero, List.set_cons_succ]
        refine s_val (.int .i64 D) (by rfl) (run_load3 (.tmp 49) rfl w3.heap.size 3 D rfl (fun w h => (cell_of_row w _ 3 _ _ _ h.1).trans rfl)) ?_
        simp only [Act.put, List.setIfInBounds_toArray, List.set_cons_zero, List.set_cons_succ]
        refine s_val (.int .i64 q) (by rfl) (fun w' _ => by rfl) ?_
        simp only [Act.put, List.setIfInBounds_toArray, List.set_cons_zero, List.set_cons_succ]
        refine s_val (.int .i64 MM) (by rfl) (fun w' _ => by rfl) ?_
        simp only [Act.put, List.setIfInBounds_toArray, List.set_cons_zero, List.set_cons_succ]
        refine s_call (.int .i64 L) 135 #[.int .i64 q, .int .i64 MM] (by rfl) (fun w => by go_simp) (fun w' h => (CM.out w').mono fun e x hx => ⟨hx.1, by rw [hx.2]; exact h⟩) ?_
        simp only [Act.put, List.setIfInBounds_toArray, List.set_cons_zero, List.set_cons_succ]
        refine s_val (.int .i64 (min D L)) (by rfl) (fun w' _ => by go_simp) ?_
        simp only [Act.put, List.setIfInBounds_toArray, List.set_cons_zero, List.set_cons_succ]
        generalize min D L = DL at *
        refine s_val (.pointer (some ⟨w3.heap.size, 2, none⟩)) (by rfl) (fun w' _ => by go_simp) ?_
        simp only [Act.put, List.setIfInBounds_toArray, List.set_cons_zero, List.set_cons_succ]
        refine s_val (.int .i64 H) (by rfl) (run_load3 (.tmp 55) rfl w3.heap.size 2 H rfl (fun w h => (cell_of_row w _ 2 _ _ _ h.1).trans rfl)) ?_
        simp only [Act.put, List.setIfInBounds_toArray, List.set_cons_zero, List.set_cons_succ]
        refine s_val (.pointer (some ⟨w3.heap.size, 1, none⟩)) (by rfl) (fun w' _ => by go_simp) ?_
        simp only [Act.put, List.setIfInBounds_toArray, List.set_cons_zero, List.set_cons_succ]
        refine s_val (.int .i64 I) (by rfl) (run_load3 (.tmp 57) rfl w3.heap.size 1 I rfl (fun w h => (cell_of_row w _ 1 _ _ _ h.1).trans rfl)) ?_
        simp only [Act.put, List.setIfInBounds_toArray, List.set_cons_zero, List.set_cons_succ]
        refine s_val (.pointer (some ⟨w3.heap.size, 0, none⟩)) (by rfl) (fun w' _ => by go_simp) ?_
        simp only [Act.put, List.setIfInBounds_toArray, List.set_cons_zero, List.set_cons_succ]
        refine s_val (.int .i64 SS) (by rfl) (run_load3 (.tmp 59) rfl w3.heap.size 0 SS rfl (fun w h => (cell_of_row w _ 0 _ _ _ h.1).trans rfl)) ?_
        simp only [Act.put, List.setIfInBounds_toArray, List.set_cons_zero, List.set_cons_succ]
        refine s_call (toV (datedT q MM DL H I SS)) 64 #[.int .i64 q, .int .i64 MM, .int .i64 DL, .int .i64 H, .int .i64 I, .int .i64 SS] (by rfl) (fun w => by go_simp) (fun w' h => (CO.out w').mono fun e x hx => ⟨hx.1, h.below hx.2⟩) ?_
        simp only [Act.put, List.setIfInBounds_toArray, List.set_cons_zero, List.set_cons_succ]
        refine s_done ?_
        intro w7 hT
        have T7 := Lib.hid hT
        clear hT
        refine store23 rfl (.tmp 4) (.tmp 61) rfl (w.heap.size + 2) (datedT q MM DL H I SS) rfl rfl _ T7.out.2.2.2.2.1 ?_
        intro wz hp
        have HP := Lib.hid hp
        clear hp
        go_wp2
        exact bodyPost_ret (ret23 rfl rfl HP.out.at') rfl ⟨by rw [HE.out], HP.out.low T7.out.2.2.2.2.2 (by omega)⟩
end YtabojeleomfgnaaGreatDoor
end Go.Proofs
