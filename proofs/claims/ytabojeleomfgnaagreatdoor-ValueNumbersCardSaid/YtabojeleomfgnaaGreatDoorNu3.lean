/- The reference: product, ints, arithmetic. -/
import Derived.Test.YtabojeleomfgnaaGreatDoorNu2
import Derived.Test.YtabojeleomfgnaaGreatDoorSh2
namespace Go.Proofs
open Go.RowKit
namespace YtabojeleomfgnaaGreatDoor
set_option maxRecDepth 100000
def prodT (n m : Int) : V3 := if bigB n m = true then nullT else numT 2 (wrap64 (n * m))
theorem size_t (n : Int) (h1 : -999999999999999 ≤ n) (h2 : n ≤ 999999999999999) (w : World) : Calls Tryz.prog 289 #[.int .i64 n] w fun e w' => e = .returned (.int .u64 (n.natAbs : Nat)) ∧ Below w.heap.size w w' := by
  rcases (by omega : 0 ≤ n ∧ (n.natAbs : Int) = n ∨ n < 0 ∧ (n.natAbs : Int) = -n) with ⟨h3, h4⟩ | ⟨h3, h4⟩
  · rw [h4]
    have e1 : max n (-n) = n := by omega
    clear h4
    go_enter Tryz.func289, Tryz.ntmps289
    go_wp2
    go_ret
    exact ⟨rfl, by go_grown⟩
  · rw [h4]
    have e1 : max n (-n) = -n := by omega
    clear h4
    go_enter Tryz.func289, Tryz.ntmps289
    go_wp2
    go_ret
    exact ⟨rfl, by go_grown⟩
set_option maxHeartbeats 1000000 in
theorem product_t (n m : Int) (h1 : -999999999999999 ≤ n) (h2 : n ≤ 999999999999999) (h3 : -999999999999999 ≤ m) (h4 : m ≤ 999999999999999) (w : World) :
    Calls Tryz.prog 240 #[.int .i64 n, .int .i64 m] w fun e w' => e = .returned (toV (prodT n m)) ∧ Below w.heap.size w w' := by
  have SN := Lib.hid (fun w => size_t n h1 h2 w)
  have SM := Lib.hid (fun w => size_t m h3 h4 w)
  have MU := Lib.hid (fun w => (Tryz.bits_Mul64 n.natAbs m.natAbs (by omega) (by omega) w).below)
  have HB : bigB n m = decide (999999999999999 < n.natAbs * m.natAbs) := rfl
  generalize n.natAbs * m.natAbs = c at MU HB
  obtain ⟨H, hH⟩ : ∃ H : Int, H = ((c / 18446744073709551616 : Nat) : Int) := ⟨_, rfl⟩
  obtain ⟨L, hL⟩ : ∃ L : Int, L = ((c % 18446744073709551616 : Nat) : Int) := ⟨_, rfl⟩
  rw [← hH, ← hL] at MU
  generalize (n.natAbs : Int) = a at SN MU
  generalize (m.natAbs : Int) = b at SM MU
  clear h1 h2 h3 h4
  rcases (by omega : (999999999999999 < c ∧ 0 < H) ∨ (999999999999999 < c ∧ H = 0 ∧ 999999999999999 < L) ∨ (c ≤ 999999999999999 ∧ H = 0 ∧ L ≤ 999999999999999)) with ⟨hc, hh⟩ | ⟨hc, hh, hl⟩ | ⟨hc, hh, hl⟩
  · have HE : Hid (prodT n m = nullT) := Lib.hid (by unfold prodT; rw [HB]; rw [if_pos (by simpa using hc)])
    generalize prodT n m = R at HE ⊢
    clear HB hc hH hL
    go_enter Tryz.func240, Tryz.ntmps240
    go_wp2_with fail
    refine (SN.out _).mono ?_
    rintro e w1 ⟨rfl, hb1⟩
    have R1 : Hid (w1.heap[w.heap.size]? = some (.cells (cells nullT) 23 (0, 0))) := Lib.hid ((hb1.block _ (by simp)).trans (new_at _ _ _ (by simp)))
    have HL1 := Lib.hid (below_call (w := w) (by go_grown) hb1)
    clear hb1
    go_wp2_with fail
    refine (SM.out _).mono ?_
    rintro e w2 ⟨rfl, hb2⟩
    have R2 : Hid (w2.heap[w.heap.size]? = some (.cells (cells nullT) 23 (0, 0))) := Lib.hid ((hb2.block _ (lt_of_block R1.out)).trans R1.out)
    have HL2 := Lib.hid (below_call HL1.out hb2)
    clear hb2
    go_wp2_with fail
    refine (MU.out _).mono ?_
    rintro e w3 ⟨rfl, hb3⟩
    have R3 : Hid (w3.heap[w.heap.size]? = some (.cells (cells nullT) 23 (0, 0))) := Lib.hid ((hb3.block _ (lt_of_block R2.out)).trans R2.out)
    have HL3 := Lib.hid (below_call HL2.out hb3)
    clear hb3
    go_wp2_with (refine store23 rfl (.tmp 4) (.tmp 24) rfl w.heap.size (nullT) rfl rfl _ R3.out ?_; intro wz hp; have HP := Lib.hid hp; clear hp)
    exact bodyPost_ret (ret23 rfl rfl HP.out.at') rfl ⟨by rw [HE.out], HP.out.low HL3.out (Nat.le_refl _)⟩
  · have HE : Hid (prodT n m = nullT) := Lib.hid (by unfold prodT; rw [HB]; rw [if_pos (by simpa using hc)])
    generalize prodT n m = R at HE ⊢
    clear HB hc hH hL
    subst hh
    go_enter Tryz.func240, Tryz.ntmps240
    go_wp2_with fail
    refine (SN.out _).mono ?_
    rintro e w1 ⟨rfl, hb1⟩
    have R1 : Hid (w1.heap[w.heap.size]? = some (.cells (cells nullT) 23 (0, 0))) := Lib.hid ((hb1.block _ (by simp)).trans (new_at _ _ _ (by simp)))
    have HL1 := Lib.hid (below_call (w := w) (by go_grown) hb1)
    clear hb1
    go_wp2_with fail
    refine (SM.out _).mono ?_
    rintro e w2 ⟨rfl, hb2⟩
    have R2 : Hid (w2.heap[w.heap.size]? = some (.cells (cells nullT) 23 (0, 0))) := Lib.hid ((hb2.block _ (lt_of_block R1.out)).trans R1.out)
    have HL2 := Lib.hid (below_call HL1.out hb2)
    clear hb2
    go_wp2_with fail
    refine (MU.out _).mono ?_
    rintro e w3 ⟨rfl, hb3⟩
    have R3 : Hid (w3.heap[w.heap.size]? = some (.cells (cells nullT) 23 (0, 0))) := Lib.hid ((hb3.block _ (lt_of_block R2.out)).trans R2.out)
    have HL3 := Lib.hid (below_call HL2.out hb3)
    clear hb3
    go_wp2_with (refine store23 rfl (.tmp 4) (.tmp 24) rfl w.heap.size (nullT) rfl rfl _ R3.out ?_; intro wz hp; have HP := Lib.hid hp; clear hp)
    exact bodyPost_ret (ret23 rfl rfl HP.out.at') rfl ⟨by rw [HE.out], HP.out.low HL3.out (Nat.le_refl _)⟩
  · have HE : Hid (prodT n m = numT 2 (wrap64 (n * m))) := Lib.hid (by unfold prodT; rw [HB]; rw [if_neg (by simpa using hc)])
    generalize prodT n m = R at HE ⊢
    clear HB hc hH hL
    subst hh
    go_enter Tryz.func240, Tryz.ntmps240
    go_wp2_with fail
    refine (SN.out _).mono ?_
    rintro e w1 ⟨rfl, hb1⟩
    have R1 : Hid (w1.heap[w.heap.size]? = some (.cells (cells nullT) 23 (0, 0))) := Lib.hid ((hb1.block _ (by simp)).trans (new_at _ _ _ (by simp)))
    have HL1 := Lib.hid (below_call (w := w) (by go_grown) hb1)
    clear hb1
    go_wp2_with fail
    refine (SM.out _).mono ?_
    rintro e w2 ⟨rfl, hb2⟩
    have R2 : Hid (w2.heap[w.heap.size]? = some (.cells (cells nullT) 23 (0, 0))) := Lib.hid ((hb2.block _ (lt_of_block R1.out)).trans R1.out)
    have HL2 := Lib.hid (below_call HL1.out hb2)
    clear hb2
    go_wp2_with fail
    refine (MU.out _).mono ?_
    rintro e w3 ⟨rfl, hb3⟩
    have R3 : Hid (w3.heap[w.heap.size]? = some (.cells (cells nullT) 23 (0, 0))) := Lib.hid ((hb3.block _ (lt_of_block R2.out)).trans R2.out)
    have HL3 := Lib.hid (below_call HL2.out hb3)
    clear hb3
    go_wp2_with fail
    refine (rnumber_t _ _).mono ?_
    rintro e w4 ⟨rfl, hb4⟩
    have R4 : Hid (w4.heap[w.heap.size]? = some (.cells (cells nullT) 23 (0, 0))) := Lib.hid ((hb4.block _ (lt_of_block R3.out)).trans R3.out)
    have HL4 := Lib.hid (below_call HL3.out hb4)
    clear hb4
    go_wp2_with (refine store23 rfl (.tmp 4) (.tmp 28) rfl w.heap.size (numT 2 (wrap64 (n * m))) rfl rfl _ R4.out ?_; intro wz hp; have HP := Lib.hid hp; clear hp)
    exact bodyPost_ret (ret23 rfl rfl HP.out.at') rfl ⟨by rw [HE.out], HP.out.low HL4.out (Nat.le_refl _)⟩
set_option maxHeartbeats 1000000 in
theorem ints12 (n m : Int) (w : World) : Calls Tryz.prog 187 #[.int .i64 12, .int .i64 n, .int .i64 m] w fun e w' => e = .returned (toV (numT 2 (wrap64 (n + m)))) ∧ Below w.heap.size w w' := by
  go_enter Tryz.func187, Tryz.ntmps187
  go_wp2_with fail
  refine (rnumber_t _ _).mono ?_
  rintro e w1 ⟨rfl, hb1⟩
  have R1 : Hid (w1.heap[w.heap.size]? = some (.cells (cells nullT) 23 (0, 0))) := Lib.hid ((hb1.block _ (by simp)).trans (new_at _ _ _ (by simp)))
  have HL1 := Lib.hid (below_call (w := w) (by go_grown) hb1)
  clear hb1
  go_wp2_with (refine store23 rfl (.tmp 6) (.tmp 14) rfl w.heap.size (numT 2 (wrap64 (n + m))) rfl rfl _ R1.out ?_; intro wz hp; have HP := Lib.hid hp; clear hp)
  exact bodyPost_ret (ret23 rfl rfl HP.out.at') rfl ⟨rfl, HP.out.low HL1.out (Nat.le_refl _)⟩
set_option maxHeartbeats 1000000 in
theorem ints13 (n m : Int) (w : World) : Calls Tryz.prog 187 #[.int .i64 13, .int .i64 n, .int .i64 m] w fun e w' => e = .returned (toV (numT 2 (wrap64 (n - m)))) ∧ Below w.heap.size w w' := by
  go_enter Tryz.func187, Tryz.ntmps187
  go_wp2_with fail
  refine (rnumber_t _ _).mono ?_
  rintro e w1 ⟨rfl, hb1⟩
  have R1 : Hid (w1.heap[w.heap.size]? = some (.cells (cells nullT) 23 (0, 0))) := Lib.hid ((hb1.block _ (by simp)).trans (new_at _ _ _ (by simp)))
  have HL1 := Lib.hid (below_call (w := w) (by go_grown) hb1)
  clear hb1
  go_wp2_with (refine store23 rfl (.tmp 6) (.tmp 20) rfl w.heap.size (numT 2 (wrap64 (n - m))) rfl rfl _ R1.out ?_; intro wz hp; have HP := Lib.hid hp; clear hp)
  exact bodyPost_ret (ret23 rfl rfl HP.out.at') rfl ⟨rfl, HP.out.low HL1.out (Nat.le_refl _)⟩
set_option maxHeartbeats 1000000 in
theorem ints14 (n m : Int) (h1 : -999999999999999 ≤ n) (h2 : n ≤ 999999999999999) (h3 : -999999999999999 ≤ m) (h4 : m ≤ 999999999999999) (w : World) : Calls Tryz.prog 187 #[.int .i64 14, .int .i64 n, .int .i64 m] w fun e w' => e = .returned (toV (prodT n m)) ∧ Below w.heap.size w w' := by
  have CP := Lib.hid (fun w => product_t n m h1 h2 h3 h4 w)
  clear h1 h2 h3 h4
  go_enter Tryz.func187, Tryz.ntmps187
  go_wp2_with fail
  refine (CP.out _).mono ?_
  rintro e w1 ⟨rfl, hb1⟩
  have R1 : Hid (w1.heap[w.heap.size]? = some (.cells (cells nullT) 23 (0, 0))) := Lib.hid ((hb1.block _ (by simp)).trans (new_at _ _ _ (by simp)))
  have HL1 := Lib.hid (below_call (w := w) (by go_grown) hb1)
  clear hb1
  go_wp2_with (refine store23 rfl (.tmp 6) (.tmp 25) rfl w.heap.size (prodT n m) rfl rfl _ R1.out ?_; intro wz hp; have HP := Lib.hid hp; clear hp)
  exact bodyPost_ret (ret23 rfl rfl HP.out.at') rfl ⟨rfl, HP.out.low HL1.out (Nat.le_refl _)⟩
set_option maxHeartbeats 1000000 in
theorem ints15 (n m : Int) (w : World) : Calls Tryz.prog 187 #[.int .i64 15, .int .i64 n, .int .i64 m] w fun e w' => e = .returned (toV (if (m == 0) = true then nullT else numT 2 (fdiv n m))) ∧ Below w.heap.size w w' := by
  cases hc : (m == 0) with
  | true =>
    have hm : m = 0 := by simpa using hc
    subst hm
    clear hc
    go_enter Tryz.func187, Tryz.ntmps187
    go_wp2_with (refine store23 rfl (.tmp 6) (.tmp 28) rfl w.heap.size (nullT) rfl rfl nullT (new_at _ _ _ (by simp)) ?_; intro wz hp; have HP := Lib.hid hp; clear hp)
    exact bodyPost_ret (ret23 rfl rfl HP.out.at') rfl ⟨rfl, HP.out.low (by go_grown) (Nat.le_refl _)⟩
  | false =>
    have hm : ¬ m = 0 := by simpa using hc
    clear hc
    go_enter Tryz.func187, Tryz.ntmps187
    go_wp2_with fail
    refine (rfdiv_t n m hm _).mono ?_
    rintro e w1 ⟨rfl, hb1⟩
    have R1 : Hid (w1.heap[w.heap.size]? = some (.cells (cells nullT) 23 (0, 0))) := Lib.hid ((hb1.block _ (by simp)).trans (new_at _ _ _ (by simp)))
    have HL1 := Lib.hid (below_call (w := w) (by go_grown) hb1)
    clear hb1
    go_wp2_with fail
    refine (rnumber_t _ _).mono ?_
    rintro e w2 ⟨rfl, hb2⟩
    have R2 : Hid (w2.heap[w.heap.size]? = some (.cells (cells nullT) 23 (0, 0))) := Lib.hid ((hb2.block _ (lt_of_block R1.out)).trans R1.out)
    have HL2 := Lib.hid (below_call HL1.out hb2)
    clear hb2
    go_wp2_with (refine store23 rfl (.tmp 6) (.tmp 41) rfl w.heap.size (numT 2 (fdiv n m)) rfl rfl _ R2.out ?_; intro wz hp; have HP := Lib.hid hp; clear hp)
    exact bodyPost_ret (ret23 rfl rfl HP.out.at') rfl ⟨rfl, HP.out.low HL2.out (Nat.le_refl _)⟩
set_option maxHeartbeats 1000000 in
theorem ints16 (n m : Int) (w : World) : Calls Tryz.prog 187 #[.int .i64 16, .int .i64 n, .int .i64 m] w fun e w' => e = .returned (toV (if (m == 0) = true then nullT else numT 2 (wrap64 (n - wrap64 (m * fdiv n m))))) ∧ Below w.heap.size w w' := by
  cases hc : (m == 0) with
  | true =>
    have hm : m = 0 := by simpa using hc
    subst hm
    clear hc
    go_enter Tryz.func187, Tryz.ntmps187
    go_wp2_with (refine store23 rfl (.tmp 6) (.tmp 28) rfl w.heap.size (nullT) rfl rfl nullT (new_at _ _ _ (by simp)) ?_; intro wz hp; have HP := Lib.hid hp; clear hp)
    exact bodyPost_ret (ret23 rfl rfl HP.out.at') rfl ⟨rfl, HP.out.low (by go_grown) (Nat.le_refl _)⟩
  | false =>
    have hm : ¬ m = 0 := by simpa using hc
    clear hc
    go_enter Tryz.func187, Tryz.ntmps187
    go_wp2_with fail
    refine (rfdiv_t n m hm _).mono ?_
    rintro e w1 ⟨rfl, hb1⟩
    have R1 : Hid (w1.heap[w.heap.size]? = some (.cells (cells nullT) 23 (0, 0))) := Lib.hid ((hb1.block _ (by simp)).trans (new_at _ _ _ (by simp)))
    have HL1 := Lib.hid (below_call (w := w) (by go_grown) hb1)
    clear hb1
    go_wp2_with fail
    refine (rnumber_t _ _).mono ?_
    rintro e w2 ⟨rfl, hb2⟩
    have R2 : Hid (w2.heap[w.heap.size]? = some (.cells (cells nullT) 23 (0, 0))) := Lib.hid ((hb2.block _ (lt_of_block R1.out)).trans R1.out)
    have HL2 := Lib.hid (below_call HL1.out hb2)
    clear hb2
    go_wp2_with (refine store23 rfl (.tmp 6) (.tmp 39) rfl w.heap.size (numT 2 (wrap64 (n - wrap64 (m * fdiv n m)))) rfl rfl _ R2.out ?_; intro wz hp; have HP := Lib.hid hp; clear hp)
    exact bodyPost_ret (ret23 rfl rfl HP.out.at') rfl ⟨rfl, HP.out.low HL2.out (Nat.le_refl _)⟩
set_option maxHeartbeats 2000000 in
theorem arith12 (x y : V3) (hx : Right x) (hy : Right y) (w : World) : Calls Tryz.prog 117 #[.int .i64 12, toV x, toV y] w fun e w' => e = .returned (toV (addT x y)) ∧ Below w.heap.size w w' := by
  obtain ⟨_, _, b1, b2, _⟩ := hx.bounds
  obtain ⟨_, _, b3, b4, _⟩ := hy.bounds
  clear hx hy
  obtain ⟨ka, na, sa⟩ := x
  obtain ⟨kb, nb, sb⟩ := y
  dsimp only at b1 b2 b3 b4
  rcases (by omega : ka = 2 ∧ kb = 2 ∨ ka = 2 ∧ ¬ kb = 2 ∨ ka = 4 ∧ kb = 2 ∨ ka = 4 ∧ kb = 4 ∨ (ka = 4 ∧ ¬ kb = 2 ∧ ¬ kb = 4) ∨ (¬ ka = 2 ∧ ¬ ka = 4)) with ⟨rfl, rfl⟩ | ⟨rfl, hb⟩ | ⟨rfl, rfl⟩ | ⟨rfl, rfl⟩ | ⟨rfl, hb, hb'⟩ | ⟨ha, ha'⟩
  · have HE : Hid (addT (2, na, sa) (2, nb, sb) = numT 2 (wrap64 (na + nb))) := Lib.hid (rfl)
    have CI := Lib.hid (fun w => ints12 na nb w)
    generalize addT (2, na, sa) (2, nb, sb) = R at HE ⊢
    clear b1 b2 b3 b4
    generalize (numT 2 (wrap64 (na + nb))) = Z at HE CI
    change Calls Tryz.prog 117 #[.int .i64 12, val 2 na sa, val 2 nb sb] w _
    have I0 : Hid (In3 (2, na, sa) (2, nb, sb) w (((w.alloc (.cells #[.int .i64 2, .int .i64 na, .string sa] 23)).alloc (.cells #[.int .i64 2, .int .i64 nb, .string sb] 23)).alloc (.cells #[.int .i64 0, .int .i64 0, .string ⟨#[]⟩] 23))) := Lib.hid ⟨(heap_alloc_old _ _ (by simp only [World.size_alloc]; omega)).trans ((heap_alloc_old _ _ (by simp)).trans (heap_alloc_new w _)), (heap_alloc_old _ _ (by simp)).trans (new_at _ _ _ (by simp)), new_at _ _ _ (by simp), by go_grown⟩
    go_enter Tryz.func117, Tryz.ntmps117
    go_wp2_with fail
    refine (CI.out _).mono ?_
    rintro e w1 ⟨rfl, hb1⟩
    have I1 := Lib.hid (I0.out.below hb1)
    clear hb1
    go_wp2_with (refine store23 rfl (.tmp 6) (.tmp 25) rfl (w.heap.size + 2) (Z) rfl rfl _ I1.out.2.2.1 ?_; intro wz hp; have HP := Lib.hid hp; clear hp)
    exact bodyPost_ret (ret23 rfl rfl HP.out.at') rfl ⟨by rw [HE.out], HP.out.low I1.out.2.2.2 (by omega)⟩
  · have HE : Hid (addT (2, na, sa) (kb, nb, sb) = nullT) := Lib.hid (by simp [addT, okB, hb])
    generalize addT (2, na, sa) (kb, nb, sb) = R at HE ⊢
    clear b1 b2 b3 b4
    change Calls Tryz.prog 117 #[.int .i64 12, val 2 na sa, val kb nb sb] w _
    have I0 : Hid (In3 (2, na, sa) (kb, nb, sb) w (((w.alloc (.cells #[.int .i64 2, .int .i64 na, .string sa] 23)).alloc (.cells #[.int .i64 kb, .int .i64 nb, .string sb] 23)).alloc (.cells #[.int .i64 0, .int .i64 0, .string ⟨#[]⟩] 23))) := Lib.hid ⟨(heap_alloc_old _ _ (by simp only [World.size_alloc]; omega)).trans ((heap_alloc_old _ _ (by simp)).trans (heap_alloc_new w _)), (heap_alloc_old _ _ (by simp)).trans (new_at _ _ _ (by simp)), new_at _ _ _ (by simp), by go_grown⟩
    go_enter Tryz.func117, Tryz.ntmps117
    go_wp2_with (refine store23 rfl (.tmp 6) (.tmp 77) rfl (w.heap.size + 2) (nullT) rfl rfl _ I0.out.2.2.1 ?_; intro wz hp; have HP := Lib.hid hp; clear hp)
    exact bodyPost_ret (ret23 rfl rfl HP.out.at') rfl ⟨by rw [HE.out], HP.out.low I0.out.2.2.2 (by omega)⟩
  · have HE : Hid (addT (4, na, sa) (2, nb, sb) = numT 4 (wrap64 (na + nb))) := Lib.hid (rfl)
    generalize addT (4, na, sa) (2, nb, sb) = R at HE ⊢
    clear b1 b2 b3 b4
    change Calls Tryz.prog 117 #[.int .i64 12, val 4 na sa, val 2 nb sb] w _
    have I0 : Hid (In3 (4, na, sa) (2, nb, sb) w (((w.alloc (.cells #[.int .i64 4, .int .i64 na, .string sa] 23)).alloc (.cells #[.int .i64 2, .int .i64 nb, .string sb] 23)).alloc (.cells #[.int .i64 0, .int .i64 0, .string ⟨#[]⟩] 23))) := Lib.hid ⟨(heap_alloc_old _ _ (by simp only [World.size_alloc]; omega)).trans ((heap_alloc_old _ _ (by simp)).trans (heap_alloc_new w _)), (heap_alloc_old _ _ (by simp)).trans (new_at _ _ _ (by simp)), new_at _ _ _ (by simp), by go_grown⟩
    go_enter Tryz.func117, Tryz.ntmps117
    go_wp2_with fail
    refine (rmoment_t _ _).mono ?_
    rintro e w1 ⟨rfl, hb1⟩
    have I1 := Lib.hid (I0.out.below hb1)
    clear hb1
    go_wp2_with (refine store23 rfl (.tmp 6) (.tmp 42) rfl (w.heap.size + 2) (numT 4 (wrap64 (na + nb))) rfl rfl _ I1.out.2.2.1 ?_; intro wz hp; have HP := Lib.hid hp; clear hp)
    exact bodyPost_ret (ret23 rfl rfl HP.out.at') rfl ⟨by rw [HE.out], HP.out.low I1.out.2.2.2 (by omega)⟩
  · have HE : Hid (addT (4, na, sa) (4, nb, sb) = nullT) := Lib.hid (by simp [addT, okB])
    generalize addT (4, na, sa) (4, nb, sb) = R at HE ⊢
    clear b1 b2 b3 b4
    change Calls Tryz.prog 117 #[.int .i64 12, val 4 na sa, val 4 nb sb] w _
    have I0 : Hid (In3 (4, na, sa) (4, nb, sb) w (((w.alloc (.cells #[.int .i64 4, .int .i64 na, .string sa] 23)).alloc (.cells #[.int .i64 4, .int .i64 nb, .string sb] 23)).alloc (.cells #[.int .i64 0, .int .i64 0, .string ⟨#[]⟩] 23))) := Lib.hid ⟨(heap_alloc_old _ _ (by simp only [World.size_alloc]; omega)).trans ((heap_alloc_old _ _ (by simp)).trans (heap_alloc_new w _)), (heap_alloc_old _ _ (by simp)).trans (new_at _ _ _ (by simp)), new_at _ _ _ (by simp), by go_grown⟩
    go_enter Tryz.func117, Tryz.ntmps117
    go_wp2_with (refine store23 rfl (.tmp 6) (.tmp 77) rfl (w.heap.size + 2) (nullT) rfl rfl _ I0.out.2.2.1 ?_; intro wz hp; have HP := Lib.hid hp; clear hp)
    exact bodyPost_ret (ret23 rfl rfl HP.out.at') rfl ⟨by rw [HE.out], HP.out.low I0.out.2.2.2 (by omega)⟩
  · have HE : Hid (addT (4, na, sa) (kb, nb, sb) = nullT) := Lib.hid (by simp [addT, okB, hb])
    generalize addT (4, na, sa) (kb, nb, sb) = R at HE ⊢
    clear b1 b2 b3 b4
    change Calls Tryz.prog 117 #[.int .i64 12, val 4 na sa, val kb nb sb] w _
    have I0 : Hid (In3 (4, na, sa) (kb, nb, sb) w (((w.alloc (.cells #[.int .i64 4, .int .i64 na, .string sa] 23)).alloc (.cells #[.int .i64 kb, .int .i64 nb, .string sb] 23)).alloc (.cells #[.int .i64 0, .int .i64 0, .string ⟨#[]⟩] 23))) := Lib.hid ⟨(heap_alloc_old _ _ (by simp only [World.size_alloc]; omega)).trans ((heap_alloc_old _ _ (by simp)).trans (heap_alloc_new w _)), (heap_alloc_old _ _ (by simp)).trans (new_at _ _ _ (by simp)), new_at _ _ _ (by simp), by go_grown⟩
    go_enter Tryz.func117, Tryz.ntmps117
    go_wp2_with (refine store23 rfl (.tmp 6) (.tmp 77) rfl (w.heap.size + 2) (nullT) rfl rfl _ I0.out.2.2.1 ?_; intro wz hp; have HP := Lib.hid hp; clear hp)
    exact bodyPost_ret (ret23 rfl rfl HP.out.at') rfl ⟨by rw [HE.out], HP.out.low I0.out.2.2.2 (by omega)⟩
  · have HE : Hid (addT (ka, na, sa) (kb, nb, sb) = nullT) := Lib.hid (by simp [addT, okB, ha, ha'])
    generalize addT (ka, na, sa) (kb, nb, sb) = R at HE ⊢
    clear b1 b2 b3 b4
    change Calls Tryz.prog 117 #[.int .i64 12, val ka na sa, val kb nb sb] w _
    have I0 : Hid (In3 (ka, na, sa) (kb, nb, sb) w (((w.alloc (.cells #[.int .i64 ka, .int .i64 na, .string sa] 23)).alloc (.cells #[.int .i64 kb, .int .i64 nb, .string sb] 23)).alloc (.cells #[.int .i64 0, .int .i64 0, .string ⟨#[]⟩] 23))) := Lib.hid ⟨(heap_alloc_old _ _ (by simp only [World.size_alloc]; omega)).trans ((heap_alloc_old _ _ (by simp)).trans (heap_alloc_new w _)), (heap_alloc_old _ _ (by simp)).trans (new_at _ _ _ (by simp)), new_at _ _ _ (by simp), by go_grown⟩
    go_enter Tryz.func117, Tryz.ntmps117
    go_wp2_with (refine store23 rfl (.tmp 6) (.tmp 77) rfl (w.heap.size + 2) (nullT) rfl rfl _ I0.out.2.2.1 ?_; intro wz hp; have HP := Lib.hid hp; clear hp)
    exact bodyPost_ret (ret23 rfl rfl HP.out.at') rfl ⟨by rw [HE.out], HP.out.low I0.out.2.2.2 (by omega)⟩
set_option maxHeartbeats 2000000 in
theorem arith13 (x y : V3) (hx : Right x) (hy : Right y) (w : World) : Calls Tryz.prog 117 #[.int .i64 13, toV x, toV y] w fun e w' => e = .returned (toV (subT x y)) ∧ Below w.heap.size w w' := by
  obtain ⟨_, _, b1, b2, _⟩ := hx.bounds
  obtain ⟨_, _, b3, b4, _⟩ := hy.bounds
  clear hx hy
  obtain ⟨ka, na, sa⟩ := x
  obtain ⟨kb, nb, sb⟩ := y
  dsimp only at b1 b2 b3 b4
  rcases (by omega : ka = 2 ∧ kb = 2 ∨ ka = 2 ∧ ¬ kb = 2 ∨ ka = 4 ∧ kb = 2 ∨ ka = 4 ∧ kb = 4 ∨ (ka = 4 ∧ ¬ kb = 2 ∧ ¬ kb = 4) ∨ (¬ ka = 2 ∧ ¬ ka = 4)) with ⟨rfl, rfl⟩ | ⟨rfl, hb⟩ | ⟨rfl, rfl⟩ | ⟨rfl, rfl⟩ | ⟨rfl, hb, hb'⟩ | ⟨ha, ha'⟩
  · have HE : Hid (subT (2, na, sa) (2, nb, sb) = numT 2 (wrap64 (na - nb))) := Lib.hid (rfl)
    have CI := Lib.hid (fun w => ints13 na nb w)
    generalize subT (2, na, sa) (2, nb, sb) = R at HE ⊢
    clear b1 b2 b3 b4
    generalize (numT 2 (wrap64 (na - nb))) = Z at HE CI
    change Calls Tryz.prog 117 #[.int .i64 13, val 2 na sa, val 2 nb sb] w _
    have I0 : Hid (In3 (2, na, sa) (2, nb, sb) w (((w.alloc (.cells #[.int .i64 2, .int .i64 na, .string sa] 23)).alloc (.cells #[.int .i64 2, .int .i64 nb, .string sb] 23)).alloc (.cells #[.int .i64 0, .int .i64 0, .string ⟨#[]⟩] 23))) := Lib.hid ⟨(heap_alloc_old _ _ (by simp only [World.size_alloc]; omega)).trans ((heap_alloc_old _ _ (by simp)).trans (heap_alloc_new w _)), (heap_alloc_old _ _ (by simp)).trans (new_at _ _ _ (by simp)), new_at _ _ _ (by simp), by go_grown⟩
    go_enter Tryz.func117, Tryz.ntmps117
    go_wp2_with fail
    refine (CI.out _).mono ?_
    rintro e w1 ⟨rfl, hb1⟩
    have I1 := Lib.hid (I0.out.below hb1)
    clear hb1
    go_wp2_with (refine store23 rfl (.tmp 6) (.tmp 25) rfl (w.heap.size + 2) (Z) rfl rfl _ I1.out.2.2.1 ?_; intro wz hp; have HP := Lib.hid hp; clear hp)
    exact bodyPost_ret (ret23 rfl rfl HP.out.at') rfl ⟨by rw [HE.out], HP.out.low I1.out.2.2.2 (by omega)⟩
  · have HE : Hid (subT (2, na, sa) (kb, nb, sb) = nullT) := Lib.hid (by simp [subT, okB, hb])
    generalize subT (2, na, sa) (kb, nb, sb) = R at HE ⊢
    clear b1 b2 b3 b4
    change Calls Tryz.prog 117 #[.int .i64 13, val 2 na sa, val kb nb sb] w _
    have I0 : Hid (In3 (2, na, sa) (kb, nb, sb) w (((w.alloc (.cells #[.int .i64 2, .int .i64 na, .string sa] 23)).alloc (.cells #[.int .i64 kb, .int .i64 nb, .string sb] 23)).alloc (.cells #[.int .i64 0, .int .i64 0, .string ⟨#[]⟩] 23))) := Lib.hid ⟨(heap_alloc_old _ _ (by simp only [World.size_alloc]; omega)).trans ((heap_alloc_old _ _ (by simp)).trans (heap_alloc_new w _)), (heap_alloc_old _ _ (by simp)).trans (new_at _ _ _ (by simp)), new_at _ _ _ (by simp), by go_grown⟩
    go_enter Tryz.func117, Tryz.ntmps117
    go_wp2_with (refine store23 rfl (.tmp 6) (.tmp 77) rfl (w.heap.size + 2) (nullT) rfl rfl _ I0.out.2.2.1 ?_; intro wz hp; have HP := Lib.hid hp; clear hp)
    exact bodyPost_ret (ret23 rfl rfl HP.out.at') rfl ⟨by rw [HE.out], HP.out.low I0.out.2.2.2 (by omega)⟩
  · have HE : Hid (subT (4, na, sa) (2, nb, sb) = numT 4 (wrap64 (na - nb))) := Lib.hid (rfl)
    generalize subT (4, na, sa) (2, nb, sb) = R at HE ⊢
    clear b1 b2 b3 b4
    change Calls Tryz.prog 117 #[.int .i64 13, val 4 na sa, val 2 nb sb] w _
    have I0 : Hid (In3 (4, na, sa) (2, nb, sb) w (((w.alloc (.cells #[.int .i64 4, .int .i64 na, .string sa] 23)).alloc (.cells #[.int .i64 2, .int .i64 nb, .string sb] 23)).alloc (.cells #[.int .i64 0, .int .i64 0, .string ⟨#[]⟩] 23))) := Lib.hid ⟨(heap_alloc_old _ _ (by simp only [World.size_alloc]; omega)).trans ((heap_alloc_old _ _ (by simp)).trans (heap_alloc_new w _)), (heap_alloc_old _ _ (by simp)).trans (new_at _ _ _ (by simp)), new_at _ _ _ (by simp), by go_grown⟩
    go_enter Tryz.func117, Tryz.ntmps117
    go_wp2_with fail
    refine (rmoment_t _ _).mono ?_
    rintro e w1 ⟨rfl, hb1⟩
    have I1 := Lib.hid (I0.out.below hb1)
    clear hb1
    go_wp2_with (refine store23 rfl (.tmp 6) (.tmp 59) rfl (w.heap.size + 2) (numT 4 (wrap64 (na - nb))) rfl rfl _ I1.out.2.2.1 ?_; intro wz hp; have HP := Lib.hid hp; clear hp)
    exact bodyPost_ret (ret23 rfl rfl HP.out.at') rfl ⟨by rw [HE.out], HP.out.low I1.out.2.2.2 (by omega)⟩
  · have HE : Hid (subT (4, na, sa) (4, nb, sb) = numT 2 (wrap64 (na - nb))) := Lib.hid (rfl)
    generalize subT (4, na, sa) (4, nb, sb) = R at HE ⊢
    clear b1 b2 b3 b4
    change Calls Tryz.prog 117 #[.int .i64 13, val 4 na sa, val 4 nb sb] w _
    have I0 : Hid (In3 (4, na, sa) (4, nb, sb) w (((w.alloc (.cells #[.int .i64 4, .int .i64 na, .string sa] 23)).alloc (.cells #[.int .i64 4, .int .i64 nb, .string sb] 23)).alloc (.cells #[.int .i64 0, .int .i64 0, .string ⟨#[]⟩] 23))) := Lib.hid ⟨(heap_alloc_old _ _ (by simp only [World.size_alloc]; omega)).trans ((heap_alloc_old _ _ (by simp)).trans (heap_alloc_new w _)), (heap_alloc_old _ _ (by simp)).trans (new_at _ _ _ (by simp)), new_at _ _ _ (by simp), by go_grown⟩
    go_enter Tryz.func117, Tryz.ntmps117
    go_wp2_with fail
    refine (rnumber_t _ _).mono ?_
    rintro e w1 ⟨rfl, hb1⟩
    have I1 := Lib.hid (I0.out.below hb1)
    clear hb1
    go_wp2_with (refine store23 rfl (.tmp 6) (.tmp 76) rfl (w.heap.size + 2) (numT 2 (wrap64 (na - nb))) rfl rfl _ I1.out.2.2.1 ?_; intro wz hp; have HP := Lib.hid hp; clear hp)
    exact bodyPost_ret (ret23 rfl rfl HP.out.at') rfl ⟨by rw [HE.out], HP.out.low I1.out.2.2.2 (by omega)⟩
  · have HE : Hid (subT (4, na, sa) (kb, nb, sb) = nullT) := Lib.hid (by simp [subT, okB, hb, hb'])
    generalize subT (4, na, sa) (kb, nb, sb) = R at HE ⊢
    clear b1 b2 b3 b4
    change Calls Tryz.prog 117 #[.int .i64 13, val 4 na sa, val kb nb sb] w _
    have I0 : Hid (In3 (4, na, sa) (kb, nb, sb) w (((w.alloc (.cells #[.int .i64 4, .int .i64 na, .string sa] 23)).alloc (.cells #[.int .i64 kb, .int .i64 nb, .string sb] 23)).alloc (.cells #[.int .i64 0, .int .i64 0, .string ⟨#[]⟩] 23))) := Lib.hid ⟨(heap_alloc_old _ _ (by simp only [World.size_alloc]; omega)).trans ((heap_alloc_old _ _ (by simp)).trans (heap_alloc_new w _)), (heap_alloc_old _ _ (by simp)).trans (new_at _ _ _ (by simp)), new_at _ _ _ (by simp), by go_grown⟩
    go_enter Tryz.func117, Tryz.ntmps117
    go_wp2_with (refine store23 rfl (.tmp 6) (.tmp 77) rfl (w.heap.size + 2) (nullT) rfl rfl _ I0.out.2.2.1 ?_; intro wz hp; have HP := Lib.hid hp; clear hp)
    exact bodyPost_ret (ret23 rfl rfl HP.out.at') rfl ⟨by rw [HE.out], HP.out.low I0.out.2.2.2 (by omega)⟩
  · have HE : Hid (subT (ka, na, sa) (kb, nb, sb) = nullT) := Lib.hid (by simp [subT, okB, ha, ha'])
    generalize subT (ka, na, sa) (kb, nb, sb) = R at HE ⊢
    clear b1 b2 b3 b4
    change Calls Tryz.prog 117 #[.int .i64 13, val ka na sa, val kb nb sb] w _
    have I0 : Hid (In3 (ka, na, sa) (kb, nb, sb) w (((w.alloc (.cells #[.int .i64 ka, .int .i64 na, .string sa] 23)).alloc (.cells #[.int .i64 kb, .int .i64 nb, .string sb] 23)).alloc (.cells #[.int .i64 0, .int .i64 0, .string ⟨#[]⟩] 23))) := Lib.hid ⟨(heap_alloc_old _ _ (by simp only [World.size_alloc]; omega)).trans ((heap_alloc_old _ _ (by simp)).trans (heap_alloc_new w _)), (heap_alloc_old _ _ (by simp)).trans (new_at _ _ _ (by simp)), new_at _ _ _ (by simp), by go_grown⟩
    go_enter Tryz.func117, Tryz.ntmps117
    go_wp2_with (refine store23 rfl (.tmp 6) (.tmp 77) rfl (w.heap.size + 2) (nullT) rfl rfl _ I0.out.2.2.1 ?_; intro wz hp; have HP := Lib.hid hp; clear hp)
    exact bodyPost_ret (ret23 rfl rfl HP.out.at') rfl ⟨by rw [HE.out], HP.out.low I0.out.2.2.2 (by omega)⟩
set_option maxHeartbeats 2000000 in
theorem arith14 (x y : V3) (hx : Right x) (hy : Right y) (w : World) : Calls Tryz.prog 117 #[.int .i64 14, toV x, toV y] w fun e w' => e = .returned (toV (mulT x y)) ∧ Below w.heap.size w w' := by
  obtain ⟨_, _, b1, b2, _⟩ := hx.bounds
  obtain ⟨_, _, b3, b4, _⟩ := hy.bounds
  clear hx hy
  obtain ⟨ka, na, sa⟩ := x
  obtain ⟨kb, nb, sb⟩ := y
  dsimp only at b1 b2 b3 b4
  rcases (by omega : ka = 2 ∧ kb = 2 ∨ ka = 2 ∧ ¬ kb = 2 ∨ ka = 4 ∧ kb = 2 ∨ ka = 4 ∧ kb = 4 ∨ (ka = 4 ∧ ¬ kb = 2 ∧ ¬ kb = 4) ∨ (¬ ka = 2 ∧ ¬ ka = 4)) with ⟨rfl, rfl⟩ | ⟨rfl, hb⟩ | ⟨rfl, rfl⟩ | ⟨rfl, rfl⟩ | ⟨rfl, hb, hb'⟩ | ⟨ha, ha'⟩
  · have HE : Hid (mulT (2, na, sa) (2, nb, sb) = prodT na nb) := Lib.hid (rfl)
    have CI := Lib.hid (fun w => ints14 na nb b1 b2 b3 b4 w)
    generalize mulT (2, na, sa) (2, nb, sb) = R at HE ⊢
    clear b1 b2 b3 b4
    generalize (prodT na nb) = Z at HE CI
    change Calls Tryz.prog 117 #[.int .i64 14, val 2 na sa, val 2 nb sb] w _
    have I0 : Hid (In3 (2, na, sa) (2, nb, sb) w (((w.alloc (.cells #[.int .i64 2, .int .i64 na, .string sa] 23)).alloc (.cells #[.int .i64 2, .int .i64 nb, .string sb] 23)).alloc (.cells #[.int .i64 0, .int .i64 0, .string ⟨#[]⟩] 23))) := Lib.hid ⟨(heap_alloc_old _ _ (by simp only [World.size_alloc]; omega)).trans ((heap_alloc_old _ _ (by simp)).trans (heap_alloc_new w _)), (heap_alloc_old _ _ (by simp)).trans (new_at _ _ _ (by simp)), new_at _ _ _ (by simp), by go_grown⟩
    go_enter Tryz.func117, Tryz.ntmps117
    go_wp2_with fail
    refine (CI.out _).mono ?_
    rintro e w1 ⟨rfl, hb1⟩
    have I1 := Lib.hid (I0.out.below hb1)
    clear hb1
    go_wp2_with (refine store23 rfl (.tmp 6) (.tmp 25) rfl (w.heap.size + 2) (Z) rfl rfl _ I1.out.2.2.1 ?_; intro wz hp; have HP := Lib.hid hp; clear hp)
    exact bodyPost_ret (ret23 rfl rfl HP.out.at') rfl ⟨by rw [HE.out], HP.out.low I1.out.2.2.2 (by omega)⟩
  · have HE : Hid (mulT (2, na, sa) (kb, nb, sb) = nullT) := Lib.hid (by simp [mulT, okB, hb])
    generalize mulT (2, na, sa) (kb, nb, sb) = R at HE ⊢
    clear b1 b2 b3 b4
    change Calls Tryz.prog 117 #[.int .i64 14, val 2 na sa, val kb nb sb] w _
    have I0 : Hid (In3 (2, na, sa) (kb, nb, sb) w (((w.alloc (.cells #[.int .i64 2, .int .i64 na, .string sa] 23)).alloc (.cells #[.int .i64 kb, .int .i64 nb, .string sb] 23)).alloc (.cells #[.int .i64 0, .int .i64 0, .string ⟨#[]⟩] 23))) := Lib.hid ⟨(heap_alloc_old _ _ (by simp only [World.size_alloc]; omega)).trans ((heap_alloc_old _ _ (by simp)).trans (heap_alloc_new w _)), (heap_alloc_old _ _ (by simp)).trans (new_at _ _ _ (by simp)), new_at _ _ _ (by simp), by go_grown⟩
    go_enter Tryz.func117, Tryz.ntmps117
    go_wp2_with (refine store23 rfl (.tmp 6) (.tmp 77) rfl (w.heap.size + 2) (nullT) rfl rfl _ I0.out.2.2.1 ?_; intro wz hp; have HP := Lib.hid hp; clear hp)
    exact bodyPost_ret (ret23 rfl rfl HP.out.at') rfl ⟨by rw [HE.out], HP.out.low I0.out.2.2.2 (by omega)⟩
  · have HE : Hid (mulT (4, na, sa) (2, nb, sb) = nullT) := Lib.hid (by simp [mulT, okB])
    generalize mulT (4, na, sa) (2, nb, sb) = R at HE ⊢
    clear b1 b2 b3 b4
    change Calls Tryz.prog 117 #[.int .i64 14, val 4 na sa, val 2 nb sb] w _
    have I0 : Hid (In3 (4, na, sa) (2, nb, sb) w (((w.alloc (.cells #[.int .i64 4, .int .i64 na, .string sa] 23)).alloc (.cells #[.int .i64 2, .int .i64 nb, .string sb] 23)).alloc (.cells #[.int .i64 0, .int .i64 0, .string ⟨#[]⟩] 23))) := Lib.hid ⟨(heap_alloc_old _ _ (by simp only [World.size_alloc]; omega)).trans ((heap_alloc_old _ _ (by simp)).trans (heap_alloc_new w _)), (heap_alloc_old _ _ (by simp)).trans (new_at _ _ _ (by simp)), new_at _ _ _ (by simp), by go_grown⟩
    go_enter Tryz.func117, Tryz.ntmps117
    go_wp2_with (refine store23 rfl (.tmp 6) (.tmp 77) rfl (w.heap.size + 2) (nullT) rfl rfl _ I0.out.2.2.1 ?_; intro wz hp; have HP := Lib.hid hp; clear hp)
    exact bodyPost_ret (ret23 rfl rfl HP.out.at') rfl ⟨by rw [HE.out], HP.out.low I0.out.2.2.2 (by omega)⟩
  · have HE : Hid (mulT (4, na, sa) (4, nb, sb) = nullT) := Lib.hid (by simp [mulT, okB])
    generalize mulT (4, na, sa) (4, nb, sb) = R at HE ⊢
    clear b1 b2 b3 b4
    change Calls Tryz.prog 117 #[.int .i64 14, val 4 na sa, val 4 nb sb] w _
    have I0 : Hid (In3 (4, na, sa) (4, nb, sb) w (((w.alloc (.cells #[.int .i64 4, .int .i64 na, .string sa] 23)).alloc (.cells #[.int .i64 4, .int .i64 nb, .string sb] 23)).alloc (.cells #[.int .i64 0, .int .i64 0, .string ⟨#[]⟩] 23))) := Lib.hid ⟨(heap_alloc_old _ _ (by simp only [World.size_alloc]; omega)).trans ((heap_alloc_old _ _ (by simp)).trans (heap_alloc_new w _)), (heap_alloc_old _ _ (by simp)).trans (new_at _ _ _ (by simp)), new_at _ _ _ (by simp), by go_grown⟩
    go_enter Tryz.func117, Tryz.ntmps117
    go_wp2_with (refine store23 rfl (.tmp 6) (.tmp 77) rfl (w.heap.size + 2) (nullT) rfl rfl _ I0.out.2.2.1 ?_; intro wz hp; have HP := Lib.hid hp; clear hp)
    exact bodyPost_ret (ret23 rfl rfl HP.out.at') rfl ⟨by rw [HE.out], HP.out.low I0.out.2.2.2 (by omega)⟩
  · have HE : Hid (mulT (4, na, sa) (kb, nb, sb) = nullT) := Lib.hid (by simp [mulT, okB])
    generalize mulT (4, na, sa) (kb, nb, sb) = R at HE ⊢
    clear b1 b2 b3 b4
    change Calls Tryz.prog 117 #[.int .i64 14, val 4 na sa, val kb nb sb] w _
    have I0 : Hid (In3 (4, na, sa) (kb, nb, sb) w (((w.alloc (.cells #[.int .i64 4, .int .i64 na, .string sa] 23)).alloc (.cells #[.int .i64 kb, .int .i64 nb, .string sb] 23)).alloc (.cells #[.int .i64 0, .int .i64 0, .string ⟨#[]⟩] 23))) := Lib.hid ⟨(heap_alloc_old _ _ (by simp only [World.size_alloc]; omega)).trans ((heap_alloc_old _ _ (by simp)).trans (heap_alloc_new w _)), (heap_alloc_old _ _ (by simp)).trans (new_at _ _ _ (by simp)), new_at _ _ _ (by simp), by go_grown⟩
    go_enter Tryz.func117, Tryz.ntmps117
    go_wp2_with (refine store23 rfl (.tmp 6) (.tmp 77) rfl (w.heap.size + 2) (nullT) rfl rfl _ I0.out.2.2.1 ?_; intro wz hp; have HP := Lib.hid hp; clear hp)
    exact bodyPost_ret (ret23 rfl rfl HP.out.at') rfl ⟨by rw [HE.out], HP.out.low I0.out.2.2.2 (by omega)⟩
  · have HE : Hid (mulT (ka, na, sa) (kb, nb, sb) = nullT) := Lib.hid (by simp [mulT, okB, ha])
    generalize mulT (ka, na, sa) (kb, nb, sb) = R at HE ⊢
    clear b1 b2 b3 b4
    change Calls Tryz.prog 117 #[.int .i64 14, val ka na sa, val kb nb sb] w _
    have I0 : Hid (In3 (ka, na, sa) (kb, nb, sb) w (((w.alloc (.cells #[.int .i64 ka, .int .i64 na, .string sa] 23)).alloc (.cells #[.int .i64 kb, .int .i64 nb, .string sb] 23)).alloc (.cells #[.int .i64 0, .int .i64 0, .string ⟨#[]⟩] 23))) := Lib.hid ⟨(heap_alloc_old _ _ (by simp only [World.size_alloc]; omega)).trans ((heap_alloc_old _ _ (by simp)).trans (heap_alloc_new w _)), (heap_alloc_old _ _ (by simp)).trans (new_at _ _ _ (by simp)), new_at _ _ _ (by simp), by go_grown⟩
    go_enter Tryz.func117, Tryz.ntmps117
    go_wp2_with (refine store23 rfl (.tmp 6) (.tmp 77) rfl (w.heap.size + 2) (nullT) rfl rfl _ I0.out.2.2.1 ?_; intro wz hp; have HP := Lib.hid hp; clear hp)
    exact bodyPost_ret (ret23 rfl rfl HP.out.at') rfl ⟨by rw [HE.out], HP.out.low I0.out.2.2.2 (by omega)⟩
set_option maxHeartbeats 2000000 in
theorem arith15 (x y : V3) (hx : Right x) (hy : Right y) (w : World) : Calls Tryz.prog 117 #[.int .i64 15, toV x, toV y] w fun e w' => e = .returned (toV (divT x y)) ∧ Below w.heap.size w w' := by
  obtain ⟨_, _, b1, b2, _⟩ := hx.bounds
  obtain ⟨_, _, b3, b4, _⟩ := hy.bounds
  clear hx hy
  obtain ⟨ka, na, sa⟩ := x
  obtain ⟨kb, nb, sb⟩ := y
  dsimp only at b1 b2 b3 b4
  rcases (by omega : ka = 2 ∧ kb = 2 ∨ ka = 2 ∧ ¬ kb = 2 ∨ ka = 4 ∧ kb = 2 ∨ ka = 4 ∧ kb = 4 ∨ (ka = 4 ∧ ¬ kb = 2 ∧ ¬ kb = 4) ∨ (¬ ka = 2 ∧ ¬ ka = 4)) with ⟨rfl, rfl⟩ | ⟨rfl, hb⟩ | ⟨rfl, rfl⟩ | ⟨rfl, rfl⟩ | ⟨rfl, hb, hb'⟩ | ⟨ha, ha'⟩
  · have HE : Hid (divT (2, na, sa) (2, nb, sb) = if (nb == 0) = true then nullT else numT 2 (fdiv na nb)) := Lib.hid (rfl)
    have CI := Lib.hid (fun w => ints15 na nb w)
    generalize divT (2, na, sa) (2, nb, sb) = R at HE ⊢
    clear b1 b2 b3 b4
    generalize (if (nb == 0) = true then nullT else numT 2 (fdiv na nb)) = Z at HE CI
    change Calls Tryz.prog 117 #[.int .i64 15, val 2 na sa, val 2 nb sb] w _
    have I0 : Hid (In3 (2, na, sa) (2, nb, sb) w (((w.alloc (.cells #[.int .i64 2, .int .i64 na, .string sa] 23)).alloc (.cells #[.int .i64 2, .int .i64 nb, .string sb] 23)).alloc (.cells #[.int .i64 0, .int .i64 0, .string ⟨#[]⟩] 23))) := Lib.hid ⟨(heap_alloc_old _ _ (by simp only [World.size_alloc]; omega)).trans ((heap_alloc_old _ _ (by simp)).trans (heap_alloc_new w _)), (heap_alloc_old _ _ (by simp)).trans (new_at _ _ _ (by simp)), new_at _ _ _ (by simp), by go_grown⟩
    go_enter Tryz.func117, Tryz.ntmps117
    go_wp2_with fail
    refine (CI.out _).mono ?_
    rintro e w1 ⟨rfl, hb1⟩
    have I1 := Lib.hid (I0.out.below hb1)
    clear hb1
    go_wp2_with (refine store23 rfl (.tmp 6) (.tmp 25) rfl (w.heap.size + 2) (Z) rfl rfl _ I1.out.2.2.1 ?_; intro wz hp; have HP := Lib.hid hp; clear hp)
    exact bodyPost_ret (ret23 rfl rfl HP.out.at') rfl ⟨by rw [HE.out], HP.out.low I1.out.2.2.2 (by omega)⟩
  · have HE : Hid (divT (2, na, sa) (kb, nb, sb) = nullT) := Lib.hid (by simp [divT, okB, hb])
    generalize divT (2, na, sa) (kb, nb, sb) = R at HE ⊢
    clear b1 b2 b3 b4
    change Calls Tryz.prog 117 #[.int .i64 15, val 2 na sa, val kb nb sb] w _
    have I0 : Hid (In3 (2, na, sa) (kb, nb, sb) w (((w.alloc (.cells #[.int .i64 2, .int .i64 na, .string sa] 23)).alloc (.cells #[.int .i64 kb, .int .i64 nb, .string sb] 23)).alloc (.cells #[.int .i64 0, .int .i64 0, .string ⟨#[]⟩] 23))) := Lib.hid ⟨(heap_alloc_old _ _ (by simp only [World.size_alloc]; omega)).trans ((heap_alloc_old _ _ (by simp)).trans (heap_alloc_new w _)), (heap_alloc_old _ _ (by simp)).trans (new_at _ _ _ (by simp)), new_at _ _ _ (by simp), by go_grown⟩
    go_enter Tryz.func117, Tryz.ntmps117
    go_wp2_with (refine store23 rfl (.tmp 6) (.tmp 77) rfl (w.heap.size + 2) (nullT) rfl rfl _ I0.out.2.2.1 ?_; intro wz hp; have HP := Lib.hid hp; clear hp)
    exact bodyPost_ret (ret23 rfl rfl HP.out.at') rfl ⟨by rw [HE.out], HP.out.low I0.out.2.2.2 (by omega)⟩
  · have HE : Hid (divT (4, na, sa) (2, nb, sb) = nullT) := Lib.hid (by simp [divT, okB])
    generalize divT (4, na, sa) (2, nb, sb) = R at HE ⊢
    clear b1 b2 b3 b4
    change Calls Tryz.prog 117 #[.int .i64 15, val 4 na sa, val 2 nb sb] w _
    have I0 : Hid (In3 (4, na, sa) (2, nb, sb) w (((w.alloc (.cells #[.int .i64 4, .int .i64 na, .string sa] 23)).alloc (.cells #[.int .i64 2, .int .i64 nb, .string sb] 23)).alloc (.cells #[.int .i64 0, .int .i64 0, .string ⟨#[]⟩] 23))) := Lib.hid ⟨(heap_alloc_old _ _ (by simp only [World.size_alloc]; omega)).trans ((heap_alloc_old _ _ (by simp)).trans (heap_alloc_new w _)), (heap_alloc_old _ _ (by simp)).trans (new_at _ _ _ (by simp)), new_at _ _ _ (by simp), by go_grown⟩
    go_enter Tryz.func117, Tryz.ntmps117
    go_wp2_with (refine store23 rfl (.tmp 6) (.tmp 77) rfl (w.heap.size + 2) (nullT) rfl rfl _ I0.out.2.2.1 ?_; intro wz hp; have HP := Lib.hid hp; clear hp)
    exact bodyPost_ret (ret23 rfl rfl HP.out.at') rfl ⟨by rw [HE.out], HP.out.low I0.out.2.2.2 (by omega)⟩
  · have HE : Hid (divT (4, na, sa) (4, nb, sb) = nullT) := Lib.hid (by simp [divT, okB])
    generalize divT (4, na, sa) (4, nb, sb) = R at HE ⊢
    clear b1 b2 b3 b4
    change Calls Tryz.prog 117 #[.int .i64 15, val 4 na sa, val 4 nb sb] w _
    have I0 : Hid (In3 (4, na, sa) (4, nb, sb) w (((w.alloc (.cells #[.int .i64 4, .int .i64 na, .string sa] 23)).alloc (.cells #[.int .i64 4, .int .i64 nb, .string sb] 23)).alloc (.cells #[.int .i64 0, .int .i64 0, .string ⟨#[]⟩] 23))) := Lib.hid ⟨(heap_alloc_old _ _ (by simp only [World.size_alloc]; omega)).trans ((heap_alloc_old _ _ (by simp)).trans (heap_alloc_new w _)), (heap_alloc_old _ _ (by simp)).trans (new_at _ _ _ (by simp)), new_at _ _ _ (by simp), by go_grown⟩
    go_enter Tryz.func117, Tryz.ntmps117
    go_wp2_with (refine store23 rfl (.tmp 6) (.tmp 77) rfl (w.heap.size + 2) (nullT) rfl rfl _ I0.out.2.2.1 ?_; intro wz hp; have HP := Lib.hid hp; clear hp)
    exact bodyPost_ret (ret23 rfl rfl HP.out.at') rfl ⟨by rw [HE.out], HP.out.low I0.out.2.2.2 (by omega)⟩
  · have HE : Hid (divT (4, na, sa) (kb, nb, sb) = nullT) := Lib.hid (by simp [divT, okB])
    generalize divT (4, na, sa) (kb, nb, sb) = R at HE ⊢
    clear b1 b2 b3 b4
    change Calls Tryz.prog 117 #[.int .i64 15, val 4 na sa, val kb nb sb] w _
    have I0 : Hid (In3 (4, na, sa) (kb, nb, sb) w (((w.alloc (.cells #[.int .i64 4, .int .i64 na, .string sa] 23)).alloc (.cells #[.int .i64 kb, .int .i64 nb, .string sb] 23)).alloc (.cells #[.int .i64 0, .int .i64 0, .string ⟨#[]⟩] 23))) := Lib.hid ⟨(heap_alloc_old _ _ (by simp only [World.size_alloc]; omega)).trans ((heap_alloc_old _ _ (by simp)).trans (heap_alloc_new w _)), (heap_alloc_old _ _ (by simp)).trans (new_at _ _ _ (by simp)), new_at _ _ _ (by simp), by go_grown⟩
    go_enter Tryz.func117, Tryz.ntmps117
    go_wp2_with (refine store23 rfl (.tmp 6) (.tmp 77) rfl (w.heap.size + 2) (nullT) rfl rfl _ I0.out.2.2.1 ?_; intro wz hp; have HP := Lib.hid hp; clear hp)
    exact bodyPost_ret (ret23 rfl rfl HP.out.at') rfl ⟨by rw [HE.out], HP.out.low I0.out.2.2.2 (by omega)⟩
  · have HE : Hid (divT (ka, na, sa) (kb, nb, sb) = nullT) := Lib.hid (by simp [divT, okB, ha])
    generalize divT (ka, na, sa) (kb, nb, sb) = R at HE ⊢
    clear b1 b2 b3 b4
    change Calls Tryz.prog 117 #[.int .i64 15, val ka na sa, val kb nb sb] w _
    have I0 : Hid (In3 (ka, na, sa) (kb, nb, sb) w (((w.alloc (.cells #[.int .i64 ka, .int .i64 na, .string sa] 23)).alloc (.cells #[.int .i64 kb, .int .i64 nb, .string sb] 23)).alloc (.cells #[.int .i64 0, .int .i64 0, .string ⟨#[]⟩] 23))) := Lib.hid ⟨(heap_alloc_old _ _ (by simp only [World.size_alloc]; omega)).trans ((heap_alloc_old _ _ (by simp)).trans (heap_alloc_new w _)), (heap_alloc_old _ _ (by simp)).trans (new_at _ _ _ (by simp)), new_at _ _ _ (by simp), by go_grown⟩
    go_enter Tryz.func117, Tryz.ntmps117
    go_wp2_with (refine store23 rfl (.tmp 6) (.tmp 77) rfl (w.heap.size + 2) (nullT) rfl rfl _ I0.out.2.2.1 ?_; intro wz hp; have HP := Lib.hid hp; clear hp)
    exact bodyPost_ret (ret23 rfl rfl HP.out.at') rfl ⟨by rw [HE.out], HP.out.low I0.out.2.2.2 (by omega)⟩
set_option maxHeartbeats 2000000 in
theorem arith16 (x y : V3) (hx : Right x) (hy : Right y) (w : World) : Calls Tryz.prog 117 #[.int .i64 16, toV x, toV y] w fun e w' => e = .returned (toV (modT x y)) ∧ Below w.heap.size w w' := by
  obtain ⟨_, _, b1, b2, _⟩ := hx.bounds
  obtain ⟨_, _, b3, b4, _⟩ := hy.bounds
  clear hx hy
  obtain ⟨ka, na, sa⟩ := x
  obtain ⟨kb, nb, sb⟩ := y
  dsimp only at b1 b2 b3 b4
  rcases (by omega : ka = 2 ∧ kb = 2 ∨ ka = 2 ∧ ¬ kb = 2 ∨ ka = 4 ∧ kb = 2 ∨ ka = 4 ∧ kb = 4 ∨ (ka = 4 ∧ ¬ kb = 2 ∧ ¬ kb = 4) ∨ (¬ ka = 2 ∧ ¬ ka = 4)) with ⟨rfl, rfl⟩ | ⟨rfl, hb⟩ | ⟨rfl, rfl⟩ | ⟨rfl, rfl⟩ | ⟨rfl, hb, hb'⟩ | ⟨ha, ha'⟩
  · have HE : Hid (modT (2, na, sa) (2, nb, sb) = if (nb == 0) = true then nullT else numT 2 (wrap64 (na - wrap64 (nb * fdiv na nb)))) := Lib.hid (rfl)
    have CI := Lib.hid (fun w => ints16 na nb w)
    generalize modT (2, na, sa) (2, nb, sb) = R at HE ⊢
    clear b1 b2 b3 b4
    generalize (if (nb == 0) = true then nullT else numT 2 (wrap64 (na - wrap64 (nb * fdiv na nb)))) = Z at HE CI
    change Calls Tryz.prog 117 #[.int .i64 16, val 2 na sa, val 2 nb sb] w _
    have I0 : Hid (In3 (2, na, sa) (2, nb, sb) w (((w.alloc (.cells #[.int .i64 2, .int .i64 na, .string sa] 23)).alloc (.cells #[.int .i64 2, .int .i64 nb, .string sb] 23)).alloc (.cells #[.int .i64 0, .int .i64 0, .string ⟨#[]⟩] 23))) := Lib.hid ⟨(heap_alloc_old _ _ (by simp only [World.size_alloc]; omega)).trans ((heap_alloc_old _ _ (by simp)).trans (heap_alloc_new w _)), (heap_alloc_old _ _ (by simp)).trans (new_at _ _ _ (by simp)), new_at _ _ _ (by simp), by go_grown⟩
    go_enter Tryz.func117, Tryz.ntmps117
    go_wp2_with fail
    refine (CI.out _).mono ?_
    rintro e w1 ⟨rfl, hb1⟩
    have I1 := Lib.hid (I0.out.below hb1)
    clear hb1
    go_wp2_with (refine store23 rfl (.tmp 6) (.tmp 25) rfl (w.heap.size + 2) (Z) rfl rfl _ I1.out.2.2.1 ?_; intro wz hp; have HP := Lib.hid hp; clear hp)
    exact bodyPost_ret (ret23 rfl rfl HP.out.at') rfl ⟨by rw [HE.out], HP.out.low I1.out.2.2.2 (by omega)⟩
  · have HE : Hid (modT (2, na, sa) (kb, nb, sb) = nullT) := Lib.hid (by simp [modT, okB, hb])
    generalize modT (2, na, sa) (kb, nb, sb) = R at HE ⊢
    clear b1 b2 b3 b4
    change Calls Tryz.prog 117 #[.int .i64 16, val 2 na sa, val kb nb sb] w _
    have I0 : Hid (In3 (2, na, sa) (kb, nb, sb) w (((w.alloc (.cells #[.int .i64 2, .int .i64 na, .string sa] 23)).alloc (.cells #[.int .i64 kb, .int .i64 nb, .string sb] 23)).alloc (.cells #[.int .i64 0, .int .i64 0, .string ⟨#[]⟩] 23))) := Lib.hid ⟨(heap_alloc_old _ _ (by simp only [World.size_alloc]; omega)).trans ((heap_alloc_old _ _ (by simp)).trans (heap_alloc_new w _)), (heap_alloc_old _ _ (by simp)).trans (new_at _ _ _ (by simp)), new_at _ _ _ (by simp), by go_grown⟩
    go_enter Tryz.func117, Tryz.ntmps117
    go_wp2_with (refine store23 rfl (.tmp 6) (.tmp 77) rfl (w.heap.size + 2) (nullT) rfl rfl _ I0.out.2.2.1 ?_; intro wz hp; have HP := Lib.hid hp; clear hp)
    exact bodyPost_ret (ret23 rfl rfl HP.out.at') rfl ⟨by rw [HE.out], HP.out.low I0.out.2.2.2 (by omega)⟩
  · have HE : Hid (modT (4, na, sa) (2, nb, sb) = nullT) := Lib.hid (by simp [modT, okB])
    generalize modT (4, na, sa) (2, nb, sb) = R at HE ⊢
    clear b1 b2 b3 b4
    change Calls Tryz.prog 117 #[.int .i64 16, val 4 na sa, val 2 nb sb] w _
    have I0 : Hid (In3 (4, na, sa) (2, nb, sb) w (((w.alloc (.cells #[.int .i64 4, .int .i64 na, .string sa] 23)).alloc (.cells #[.int .i64 2, .int .i64 nb, .string sb] 23)).alloc (.cells #[.int .i64 0, .int .i64 0, .string ⟨#[]⟩] 23))) := Lib.hid ⟨(heap_alloc_old _ _ (by simp only [World.size_alloc]; omega)).trans ((heap_alloc_old _ _ (by simp)).trans (heap_alloc_new w _)), (heap_alloc_old _ _ (by simp)).trans (new_at _ _ _ (by simp)), new_at _ _ _ (by simp), by go_grown⟩
    go_enter Tryz.func117, Tryz.ntmps117
    go_wp2_with (refine store23 rfl (.tmp 6) (.tmp 77) rfl (w.heap.size + 2) (nullT) rfl rfl _ I0.out.2.2.1 ?_; intro wz hp; have HP := Lib.hid hp; clear hp)
    exact bodyPost_ret (ret23 rfl rfl HP.out.at') rfl ⟨by rw [HE.out], HP.out.low I0.out.2.2.2 (by omega)⟩
  · have HE : Hid (modT (4, na, sa) (4, nb, sb) = nullT) := Lib.hid (by simp [modT, okB])
    generalize modT (4, na, sa) (4, nb, sb) = R at HE ⊢
    clear b1 b2 b3 b4
    change Calls Tryz.prog 117 #[.int .i64 16, val 4 na sa, val 4 nb sb] w _
    have I0 : Hid (In3 (4, na, sa) (4, nb, sb) w (((w.alloc (.cells #[.int .i64 4, .int .i64 na, .string sa] 23)).alloc (.cells #[.int .i64 4, .int .i64 nb, .string sb] 23)).alloc (.cells #[.int .i64 0, .int .i64 0, .string ⟨#[]⟩] 23))) := Lib.hid ⟨(heap_alloc_old _ _ (by simp only [World.size_alloc]; omega)).trans ((heap_alloc_old _ _ (by simp)).trans (heap_alloc_new w _)), (heap_alloc_old _ _ (by simp)).trans (new_at _ _ _ (by simp)), new_at _ _ _ (by simp), by go_grown⟩
    go_enter Tryz.func117, Tryz.ntmps117
    go_wp2_with (refine store23 rfl (.tmp 6) (.tmp 77) rfl (w.heap.size + 2) (nullT) rfl rfl _ I0.out.2.2.1 ?_; intro wz hp; have HP := Lib.hid hp; clear hp)
    exact bodyPost_ret (ret23 rfl rfl HP.out.at') rfl ⟨by rw [HE.out], HP.out.low I0.out.2.2.2 (by omega)⟩
  · have HE : Hid (modT (4, na, sa) (kb, nb, sb) = nullT) := Lib.hid (by simp [modT, okB])
    generalize modT (4, na, sa) (kb, nb, sb) = R at HE ⊢
    clear b1 b2 b3 b4
    change Calls Tryz.prog 117 #[.int .i64 16, val 4 na sa, val kb nb sb] w _
    have I0 : Hid (In3 (4, na, sa) (kb, nb, sb) w (((w.alloc (.cells #[.int .i64 4, .int .i64 na, .string sa] 23)).alloc (.cells #[.int .i64 kb, .int .i64 nb, .string sb] 23)).alloc (.cells #[.int .i64 0, .int .i64 0, .string ⟨#[]⟩] 23))) := Lib.hid ⟨(heap_alloc_old _ _ (by simp only [World.size_alloc]; omega)).trans ((heap_alloc_old _ _ (by simp)).trans (heap_alloc_new w _)), (heap_alloc_old _ _ (by simp)).trans (new_at _ _ _ (by simp)), new_at _ _ _ (by simp), by go_grown⟩
    go_enter Tryz.func117, Tryz.ntmps117
    go_wp2_with (refine store23 rfl (.tmp 6) (.tmp 77) rfl (w.heap.size + 2) (nullT) rfl rfl _ I0.out.2.2.1 ?_; intro wz hp; have HP := Lib.hid hp; clear hp)
    exact bodyPost_ret (ret23 rfl rfl HP.out.at') rfl ⟨by rw [HE.out], HP.out.low I0.out.2.2.2 (by omega)⟩
  · have HE : Hid (modT (ka, na, sa) (kb, nb, sb) = nullT) := Lib.hid (by simp [modT, okB, ha])
    generalize modT (ka, na, sa) (kb, nb, sb) = R at HE ⊢
    clear b1 b2 b3 b4
    change Calls Tryz.prog 117 #[.int .i64 16, val ka na sa, val kb nb sb] w _
    have I0 : Hid (In3 (ka, na, sa) (kb, nb, sb) w (((w.alloc (.cells #[.int .i64 ka, .int .i64 na, .string sa] 23)).alloc (.cells #[.int .i64 kb, .int .i64 nb, .string sb] 23)).alloc (.cells #[.int .i64 0, .int .i64 0, .string ⟨#[]⟩] 23))) := Lib.hid ⟨(heap_alloc_old _ _ (by simp only [World.size_alloc]; omega)).trans ((heap_alloc_old _ _ (by simp)).trans (heap_alloc_new w _)), (heap_alloc_old _ _ (by simp)).trans (new_at _ _ _ (by simp)), new_at _ _ _ (by simp), by go_grown⟩
    go_enter Tryz.func117, Tryz.ntmps117
    go_wp2_with (refine store23 rfl (.tmp 6) (.tmp 77) rfl (w.heap.size + 2) (nullT) rfl rfl _ I0.out.2.2.1 ?_; intro wz hp; have HP := Lib.hid hp; clear hp)
    exact bodyPost_ret (ret23 rfl rfl HP.out.at') rfl ⟨by rw [HE.out], HP.out.low I0.out.2.2.2 (by omega)⟩
end YtabojeleomfgnaaGreatDoor
end Go.Proofs
