/- Part. -/
import Derived.Test.YtabojeleomfgnaaGreatDoorWd3
namespace Go.Proofs
open Go.RowKit
namespace YtabojeleomfgnaaGreatDoor
set_option maxRecDepth 100000
set_option maxHeartbeats 2000000 in
theorem part_t (x y z : V3) (hx : Sz x) (hy : Sz y) (hz : Sz z) (w : World) : Calls Tryz.prog 53 #[toV x, toV y, toV z] w fun e w' => e = .returned (toV (partT (clT x) (clT y) (clT z))) ∧ Below w.heap.size w w' := by
  have CX := Lib.hid (fun w => clean_t x hx w)
  have CN := Lib.hid (fun w => numbers_t y z 2 2 hy hz w)
  have RX := Lib.hid (clT_right x)
  have RY := Lib.hid (clT_right y).bounds
  have RZ := Lib.hid (clT_right z).bounds
  clear hx hy hz
  generalize hR : partT (clT x) (clT y) (clT z) = R
  generalize clT x = X at *
  generalize clT y = Y at *
  generalize clT z = Z at *
  by_cases hk : X.1 = 3
  · have RA := Lib.hid (RX.out.ascii hk)
    cases hok : okB Y Z 2 2 with
    | false =>
      have HN : Hid (R = nullT) := Lib.hid (by rw [← hR]; unfold partT; rw [hok]; simp)
      rw [hok] at CN
      clear hR RA RX RY RZ hok
      obtain ⟨K, n, s⟩ := X
      dsimp only at hk
      subst hk
      change Hid (∀ w, Calls Tryz.prog 122 #[toV y, .int .i64 2, toV z, .int .i64 2] w fun e w' => e = .returned (.tuple #[.int .i64 0, .int .i64 0, .bool false]) ∧ Below w.heap.size w w') at CN
      obtain ⟨ka, na, sa⟩ := x
      obtain ⟨kb, nb, sb⟩ := y
      obtain ⟨kc, nc, sc⟩ := z
      change Calls Tryz.prog 53 #[val ka na sa, val kb nb sb, val kc nc sc] w _
      have I0 : Hid (In4 (ka, na, sa) (kb, nb, sb) (kc, nc, sc) w ((((w.alloc (.cells #[.int .i64 ka, .int .i64 na, .string sa] 23)).alloc (.cells #[.int .i64 kb, .int .i64 nb, .string sb] 23)).alloc (.cells #[.int .i64 kc, .int .i64 nc, .string sc] 23)).alloc (.cells #[.int .i64 0, .int .i64 0, .string ⟨#[]⟩] 23))) := Lib.hid (In4.made _ _ _ w)
      go_enter Tryz.func53, Tryz.ntmps53
      go_wp2_with fail
      refine (CX.out _).mono ?_
      rintro e w1 ⟨rfl, hb1⟩
      have I1 := Lib.hid (I0.out.below hb1)
      clear hb1
      go_wp2_with (refine store23 rfl (.tmp 3) (.tmp 12) rfl w.heap.size (3, n, s) rfl rfl _ I1.out.1 ?_; intro w2 hp; have I2 := Lib.hid (hp.in4 I1.out); clear hp; have a0 : w2.cell? ⟨w.heap.size, 0, none⟩ = some (.int .i64 3) := (cell_of_row w2 _ 0 _ _ _ I2.out.1).trans rfl; have a1 : w2.cell? ⟨w.heap.size, 1, none⟩ = some (.int .i64 n) := (cell_of_row w2 _ 1 _ _ _ I2.out.1).trans rfl; have a2 : w2.cell? ⟨w.heap.size, 2, none⟩ = some (.string s) := (cell_of_row w2 _ 2 _ _ _ I2.out.1).trans rfl; have d0 : w2.cell? ⟨w.heap.size + 1, 0, none⟩ = some (.int .i64 kb) := (cell_of_row w2 _ 0 _ _ _ I2.out.2.1).trans rfl; have d1 : w2.cell? ⟨w.heap.size + 1, 1, none⟩ = some (.int .i64 nb) := (cell_of_row w2 _ 1 _ _ _ I2.out.2.1).trans rfl; have d2 : w2.cell? ⟨w.heap.size + 1, 2, none⟩ = some (.string sb) := (cell_of_row w2 _ 2 _ _ _ I2.out.2.1).trans rfl; have f0 : w2.cell? ⟨w.heap.size + 2, 0, none⟩ = some (.int .i64 kc) := (cell_of_row w2 _ 0 _ _ _ I2.out.2.2.1).trans rfl; have f1 : w2.cell? ⟨w.heap.size + 2, 1, none⟩ = some (.int .i64 nc) := (cell_of_row w2 _ 1 _ _ _ I2.out.2.2.1).trans rfl; have f2 : w2.cell? ⟨w.heap.size + 2, 2, none⟩ = some (.string sc) := (cell_of_row w2 _ 2 _ _ _ I2.out.2.2.1).trans rfl)
      go_wp2_with fail
      refine (CN.out _).mono ?_
      rintro e w3 ⟨rfl, hb3⟩
      have I3 := Lib.hid (I2.out.below hb3)
      clear hb3
      clear a0 a1 a2 d0 d1 d2 f0 f1 f2
      have a0 : w3.cell? ⟨w.heap.size, 0, none⟩ = some (.int .i64 3) := (cell_of_row w3 _ 0 _ _ _ I3.out.1).trans rfl
      have a1 : w3.cell? ⟨w.heap.size, 1, none⟩ = some (.int .i64 n) := (cell_of_row w3 _ 1 _ _ _ I3.out.1).trans rfl
      have a2 : w3.cell? ⟨w.heap.size, 2, none⟩ = some (.string s) := (cell_of_row w3 _ 2 _ _ _ I3.out.1).trans rfl
      have d0 : w3.cell? ⟨w.heap.size + 1, 0, none⟩ = some (.int .i64 kb) := (cell_of_row w3 _ 0 _ _ _ I3.out.2.1).trans rfl
      have d1 : w3.cell? ⟨w.heap.size + 1, 1, none⟩ = some (.int .i64 nb) := (cell_of_row w3 _ 1 _ _ _ I3.out.2.1).trans rfl
      have d2 : w3.cell? ⟨w.heap.size + 1, 2, none⟩ = some (.string sb) := (cell_of_row w3 _ 2 _ _ _ I3.out.2.1).trans rfl
      have f0 : w3.cell? ⟨w.heap.size + 2, 0, none⟩ = some (.int .i64 kc) := (cell_of_row w3 _ 0 _ _ _ I3.out.2.2.1).trans rfl
      have f1 : w3.cell? ⟨w.heap.size + 2, 1, none⟩ = some (.int .i64 nc) := (cell_of_row w3 _ 1 _ _ _ I3.out.2.2.1).trans rfl
      have f2 : w3.cell? ⟨w.heap.size + 2, 2, none⟩ = some (.string sc) := (cell_of_row w3 _ 2 _ _ _ I3.out.2.2.1).trans rfl
      go_wp2_with (refine store23 rfl (.tmp 6) (.tmp 35) rfl (w.heap.size + 3) (nullT) rfl rfl _ I3.out.2.2.2.1 ?_; intro wz hp; have HP := Lib.hid hp; clear hp)
      exact bodyPost_ret (ret23 rfl rfl HP.out.at') rfl ⟨by rw [HN.out], HP.out.low I3.out.2.2.2.2 (by omega)⟩
    | true =>
      have hyz : Y.1 = 2 ∧ Z.1 = 2 := by simpa [okB] using hok
      rw [hok] at CN
      obtain ⟨K, n, s⟩ := X
      obtain ⟨K1, f, t1⟩ := Y
      obtain ⟨K2, c, t2⟩ := Z
      dsimp only at hk hyz
      obtain ⟨rfl, rfl⟩ := hyz
      subst hk
      change Hid (∀ w, Calls Tryz.prog 122 #[toV y, .int .i64 2, toV z, .int .i64 2] w fun e w' => e = .returned (.tuple #[.int .i64 f, .int .i64 c, .bool true]) ∧ Below w.heap.size w w') at CN
      rcases (by omega : f < 0 ∨ (0 ≤ f ∧ c < 0) ∨ (0 ≤ f ∧ 0 ≤ c)) with c1 | ⟨c1, c2⟩ | ⟨c1, c2⟩
      · have HN : Hid (R = nullT) := Lib.hid (by rw [← hR]; unfold partT; rw [if_pos (by simp [okB]; omega)])
        clear hR RA RX RY RZ hok
        obtain ⟨ka, na, sa⟩ := x
        obtain ⟨kb, nb, sb⟩ := y
        obtain ⟨kc, nc, sc⟩ := z
        change Calls Tryz.prog 53 #[val ka na sa, val kb nb sb, val kc nc sc] w _
        have I0 : Hid (In4 (ka, na, sa) (kb, nb, sb) (kc, nc, sc) w ((((w.alloc (.cells #[.int .i64 ka, .int .i64 na, .string sa] 23)).alloc (.cells #[.int .i64 kb, .int .i64 nb, .string sb] 23)).alloc (.cells #[.int .i64 kc, .int .i64 nc, .string sc] 23)).alloc (.cells #[.int .i64 0, .int .i64 0, .string ⟨#[]⟩] 23))) := Lib.hid (In4.made _ _ _ w)
        go_enter Tryz.func53, Tryz.ntmps53
        go_wp2_with fail
        refine (CX.out _).mono ?_
        rintro e w1 ⟨rfl, hb1⟩
        have I1 := Lib.hid (I0.out.below hb1)
        clear hb1
        go_wp2_with (refine store23 rfl (.tmp 3) (.tmp 12) rfl w.heap.size (3, n, s) rfl rfl _ I1.out.1 ?_; intro w2 hp; have I2 := Lib.hid (hp.in4 I1.out); clear hp; have a0 : w2.cell? ⟨w.heap.size, 0, none⟩ = some (.int .i64 3) := (cell_of_row w2 _ 0 _ _ _ I2.out.1).trans rfl; have a1 : w2.cell? ⟨w.heap.size, 1, none⟩ = some (.int .i64 n) := (cell_of_row w2 _ 1 _ _ _ I2.out.1).trans rfl; have a2 : w2.cell? ⟨w.heap.size, 2, none⟩ = some (.string s) := (cell_of_row w2 _ 2 _ _ _ I2.out.1).trans rfl; have d0 : w2.cell? ⟨w.heap.size + 1, 0, none⟩ = some (.int .i64 kb) := (cell_of_row w2 _ 0 _ _ _ I2.out.2.1).trans rfl; have d1 : w2.cell? ⟨w.heap.size + 1, 1, none⟩ = some (.int .i64 nb) := (cell_of_row w2 _ 1 _ _ _ I2.out.2.1).trans rfl; have d2 : w2.cell? ⟨w.heap.size + 1, 2, none⟩ = some (.string sb) := (cell_of_row w2 _ 2 _ _ _ I2.out.2.1).trans rfl; have f0 : w2.cell? ⟨w.heap.size + 2, 0, none⟩ = some (.int .i64 kc) := (cell_of_row w2 _ 0 _ _ _ I2.out.2.2.1).trans rfl; have f1 : w2.cell? ⟨w.heap.size + 2, 1, none⟩ = some (.int .i64 nc) := (cell_of_row w2 _ 1 _ _ _ I2.out.2.2.1).trans rfl; have f2 : w2.cell? ⟨w.heap.size + 2, 2, none⟩ = some (.string sc) := (cell_of_row w2 _ 2 _ _ _ I2.out.2.2.1).trans rfl)
        go_wp2_with fail
        refine (CN.out _).mono ?_
        rintro e w3 ⟨rfl, hb3⟩
        have I3 := Lib.hid (I2.out.below hb3)
        clear hb3
        clear a0 a1 a2 d0 d1 d2 f0 f1 f2
        have a0 : w3.cell? ⟨w.heap.size, 0, none⟩ = some (.int .i64 3) := (cell_of_row w3 _ 0 _ _ _ I3.out.1).trans rfl
        have a1 : w3.cell? ⟨w.heap.size, 1, none⟩ = some (.int .i64 n) := (cell_of_row w3 _ 1 _ _ _ I3.out.1).trans rfl
        have a2 : w3.cell? ⟨w.heap.size, 2, none⟩ = some (.string s) := (cell_of_row w3 _ 2 _ _ _ I3.out.1).trans rfl
        have d0 : w3.cell? ⟨w.heap.size + 1, 0, none⟩ = some (.int .i64 kb) := (cell_of_row w3 _ 0 _ _ _ I3.out.2.1).trans rfl
        have d1 : w3.cell? ⟨w.heap.size + 1, 1, none⟩ = some (.int .i64 nb) := (cell_of_row w3 _ 1 _ _ _ I3.out.2.1).trans rfl
        have d2 : w3.cell? ⟨w.heap.size + 1, 2, none⟩ = some (.string sb) := (cell_of_row w3 _ 2 _ _ _ I3.out.2.1).trans rfl
        have f0 : w3.cell? ⟨w.heap.size + 2, 0, none⟩ = some (.int .i64 kc) := (cell_of_row w3 _ 0 _ _ _ I3.out.2.2.1).trans rfl
        have f1 : w3.cell? ⟨w.heap.size + 2, 1, none⟩ = some (.int .i64 nc) := (cell_of_row w3 _ 1 _ _ _ I3.out.2.2.1).trans rfl
        have f2 : w3.cell? ⟨w.heap.size + 2, 2, none⟩ = some (.string sc) := (cell_of_row w3 _ 2 _ _ _ I3.out.2.2.1).trans rfl
        go_wp2_with (refine store23 rfl (.tmp 6) (.tmp 35) rfl (w.heap.size + 3) (nullT) rfl rfl _ I3.out.2.2.2.1 ?_; intro wz hp; have HP := Lib.hid hp; clear hp)
        exact bodyPost_ret (ret23 rfl rfl HP.out.at') rfl ⟨by rw [HN.out], HP.out.low I3.out.2.2.2.2 (by omega)⟩
      · have HN : Hid (R = nullT) := Lib.hid (by rw [← hR]; unfold partT; rw [if_pos (by simp [okB]; omega)])
        clear hR RA RX RY RZ hok
        obtain ⟨ka, na, sa⟩ := x
        obtain ⟨kb, nb, sb⟩ := y
        obtain ⟨kc, nc, sc⟩ := z
        change Calls Tryz.prog 53 #[val ka na sa, val kb nb sb, val kc nc sc] w _
        have I0 : Hid (In4 (ka, na, sa) (kb, nb, sb) (kc, nc, sc) w ((((w.alloc (.cells #[.int .i64 ka, .int .i64 na, .string sa] 23)).alloc (.cells #[.int .i64 kb, .int .i64 nb, .string sb] 23)).alloc (.cells #[.int .i64 kc, .int .i64 nc, .string sc] 23)).alloc (.cells #[.int .i64 0, .int .i64 0, .string ⟨#[]⟩] 23))) := Lib.hid (In4.made _ _ _ w)
        go_enter Tryz.func53, Tryz.ntmps53
        go_wp2_with fail
        refine (CX.out _).mono ?_
        rintro e w1 ⟨rfl, hb1⟩
        have I1 := Lib.hid (I0.out.below hb1)
        clear hb1
        go_wp2_with (refine store23 rfl (.tmp 3) (.tmp 12) rfl w.heap.size (3, n, s) rfl rfl _ I1.out.1 ?_; intro w2 hp; have I2 := Lib.hid (hp.in4 I1.out); clear hp; have a0 : w2.cell? ⟨w.heap.size, 0, none⟩ = some (.int .i64 3) := (cell_of_row w2 _ 0 _ _ _ I2.out.1).trans rfl; have a1 : w2.cell? ⟨w.heap.size, 1, none⟩ = some (.int .i64 n) := (cell_of_row w2 _ 1 _ _ _ I2.out.1).trans rfl; have a2 : w2.cell? ⟨w.heap.size, 2, none⟩ = some (.string s) := (cell_of_row w2 _ 2 _ _ _ I2.out.1).trans rfl; have d0 : w2.cell? ⟨w.heap.size + 1, 0, none⟩ = some (.int .i64 kb) := (cell_of_row w2 _ 0 _ _ _ I2.out.2.1).trans rfl; have d1 : w2.cell? ⟨w.heap.size + 1, 1, none⟩ = some (.int .i64 nb) := (cell_of_row w2 _ 1 _ _ _ I2.out.2.1).trans rfl; have d2 : w2.cell? ⟨w.heap.size + 1, 2, none⟩ = some (.string sb) := (cell_of_row w2 _ 2 _ _ _ I2.out.2.1).trans rfl; have f0 : w2.cell? ⟨w.heap.size + 2, 0, none⟩ = some (.int .i64 kc) := (cell_of_row w2 _ 0 _ _ _ I2.out.2.2.1).trans rfl; have f1 : w2.cell? ⟨w.heap.size + 2, 1, none⟩ = some (.int .i64 nc) := (cell_of_row w2 _ 1 _ _ _ I2.out.2.2.1).trans rfl; have f2 : w2.cell? ⟨w.heap.size + 2, 2, none⟩ = some (.string sc) := (cell_of_row w2 _ 2 _ _ _ I2.out.2.2.1).trans rfl)
        go_wp2_with fail
        refine (CN.out _).mono ?_
        rintro e w3 ⟨rfl, hb3⟩
        have I3 := Lib.hid (I2.out.below hb3)
        clear hb3
        clear a0 a1 a2 d0 d1 d2 f0 f1 f2
        have a0 : w3.cell? ⟨w.heap.size, 0, none⟩ = some (.int .i64 3) := (cell_of_row w3 _ 0 _ _ _ I3.out.1).trans rfl
        have a1 : w3.cell? ⟨w.heap.size, 1, none⟩ = some (.int .i64 n) := (cell_of_row w3 _ 1 _ _ _ I3.out.1).trans rfl
        have a2 : w3.cell? ⟨w.heap.size, 2, none⟩ = some (.string s) := (cell_of_row w3 _ 2 _ _ _ I3.out.1).trans rfl
        have d0 : w3.cell? ⟨w.heap.size + 1, 0, none⟩ = some (.int .i64 kb) := (cell_of_row w3 _ 0 _ _ _ I3.out.2.1).trans rfl
        have d1 : w3.cell? ⟨w.heap.size + 1, 1, none⟩ = some (.int .i64 nb) := (cell_of_row w3 _ 1 _ _ _ I3.out.2.1).trans rfl
        have d2 : w3.cell? ⟨w.heap.size + 1, 2, none⟩ = some (.string sb) := (cell_of_row w3 _ 2 _ _ _ I3.out.2.1).trans rfl
        have f0 : w3.cell? ⟨w.heap.size + 2, 0, none⟩ = some (.int .i64 kc) := (cell_of_row w3 _ 0 _ _ _ I3.out.2.2.1).trans rfl
        have f1 : w3.cell? ⟨w.heap.size + 2, 1, none⟩ = some (.int .i64 nc) := (cell_of_row w3 _ 1 _ _ _ I3.out.2.2.1).trans rfl
        have f2 : w3.cell? ⟨w.heap.size + 2, 2, none⟩ = some (.string sc) := (cell_of_row w3 _ 2 _ _ _ I3.out.2.2.1).trans rfl
        go_wp2_with (refine store23 rfl (.tmp 6) (.tmp 35) rfl (w.heap.size + 3) (nullT) rfl rfl _ I3.out.2.2.2.1 ?_; intro wz hp; have HP := Lib.hid hp; clear hp)
        exact bodyPost_ret (ret23 rfl rfl HP.out.at') rfl ⟨by rw [HN.out], HP.out.low I3.out.2.2.2.2 (by omega)⟩
      · have HN : Hid (R = textT (s.extract (min f s.size).toNat (min (min f s.size + c) s.size).toNat)) := Lib.hid (by rw [← hR]; unfold partT; rw [if_neg (by simp [okB]; omega)])
        clear hR RX hok
        obtain ⟨_, _, _, r1, _⟩ := RY.out
        obtain ⟨_, _, _, r2, _⟩ := RZ.out
        dsimp only at r1 r2 RA
        clear RY RZ
        have r3 := RA.out.1
        obtain ⟨F, hF⟩ : ∃ F : Int, min f s.size = F := ⟨_, rfl⟩
        have f1 : 0 ≤ F := by omega
        have f2 : F ≤ s.size := by omega
        rw [hF] at HN
        obtain ⟨G, hG⟩ : ∃ G : Int, min (F + c) s.size = G := ⟨_, rfl⟩
        have f3 : F ≤ G := by omega
        have f4 : G ≤ s.size := by omega
        rw [hG] at HN
        obtain ⟨ka, na, sa⟩ := x
        obtain ⟨kb, nb, sb⟩ := y
        obtain ⟨kc, nc, sc⟩ := z
        change Calls Tryz.prog 53 #[val ka na sa, val kb nb sb, val kc nc sc] w _
        have I0 : Hid (In4 (ka, na, sa) (kb, nb, sb) (kc, nc, sc) w ((((w.alloc (.cells #[.int .i64 ka, .int .i64 na, .string sa] 23)).alloc (.cells #[.int .i64 kb, .int .i64 nb, .string sb] 23)).alloc (.cells #[.int .i64 kc, .int .i64 nc, .string sc] 23)).alloc (.cells #[.int .i64 0, .int .i64 0, .string ⟨#[]⟩] 23))) := Lib.hid (In4.made _ _ _ w)
        go_enter Tryz.func53, Tryz.ntmps53
        go_wp2_with fail
        refine (CX.out _).mono ?_
        rintro e w1 ⟨rfl, hb1⟩
        have I1 := Lib.hid (I0.out.below hb1)
        clear hb1
        go_wp2_with (refine store23 rfl (.tmp 3) (.tmp 12) rfl w.heap.size (3, n, s) rfl rfl _ I1.out.1 ?_; intro w2 hp; have I2 := Lib.hid (hp.in4 I1.out); clear hp; have a0 : w2.cell? ⟨w.heap.size, 0, none⟩ = some (.int .i64 3) := (cell_of_row w2 _ 0 _ _ _ I2.out.1).trans rfl; have a1 : w2.cell? ⟨w.heap.size, 1, none⟩ = some (.int .i64 n) := (cell_of_row w2 _ 1 _ _ _ I2.out.1).trans rfl; have a2 : w2.cell? ⟨w.heap.size, 2, none⟩ = some (.string s) := (cell_of_row w2 _ 2 _ _ _ I2.out.1).trans rfl; have d0 : w2.cell? ⟨w.heap.size + 1, 0, none⟩ = some (.int .i64 kb) := (cell_of_row w2 _ 0 _ _ _ I2.out.2.1).trans rfl; have d1 : w2.cell? ⟨w.heap.size + 1, 1, none⟩ = some (.int .i64 nb) := (cell_of_row w2 _ 1 _ _ _ I2.out.2.1).trans rfl; have d2 : w2.cell? ⟨w.heap.size + 1, 2, none⟩ = some (.string sb) := (cell_of_row w2 _ 2 _ _ _ I2.out.2.1).trans rfl; have f0 : w2.cell? ⟨w.heap.size + 2, 0, none⟩ = some (.int .i64 kc) := (cell_of_row w2 _ 0 _ _ _ I2.out.2.2.1).trans rfl; have f1 : w2.cell? ⟨w.heap.size + 2, 1, none⟩ = some (.int .i64 nc) := (cell_of_row w2 _ 1 _ _ _ I2.out.2.2.1).trans rfl; have f2 : w2.cell? ⟨w.heap.size + 2, 2, none⟩ = some (.string sc) := (cell_of_row w2 _ 2 _ _ _ I2.out.2.2.1).trans rfl)
        go_wp2_with fail
        refine (CN.out _).mono ?_
        rintro e w3 ⟨rfl, hb3⟩
        have I3 := Lib.hid (I2.out.below hb3)
        clear hb3
        clear a0 a1 a2 d0 d1 d2 f0 f1 f2
        have a0 : w3.cell? ⟨w.heap.size, 0, none⟩ = some (.int .i64 3) := (cell_of_row w3 _ 0 _ _ _ I3.out.1).trans rfl
        have a1 : w3.cell? ⟨w.heap.size, 1, none⟩ = some (.int .i64 n) := (cell_of_row w3 _ 1 _ _ _ I3.out.1).trans rfl
        have a2 : w3.cell? ⟨w.heap.size, 2, none⟩ = some (.string s) := (cell_of_row w3 _ 2 _ _ _ I3.out.1).trans rfl
        have d0 : w3.cell? ⟨w.heap.size + 1, 0, none⟩ = some (.int .i64 kb) := (cell_of_row w3 _ 0 _ _ _ I3.out.2.1).trans rfl
        have d1 : w3.cell? ⟨w.heap.size + 1, 1, none⟩ = some (.int .i64 nb) := (cell_of_row w3 _ 1 _ _ _ I3.out.2.1).trans rfl
        have d2 : w3.cell? ⟨w.heap.size + 1, 2, none⟩ = some (.string sb) := (cell_of_row w3 _ 2 _ _ _ I3.out.2.1).trans rfl
        have f0 : w3.cell? ⟨w.heap.size + 2, 0, none⟩ = some (.int .i64 kc) := (cell_of_row w3 _ 0 _ _ _ I3.out.2.2.1).trans rfl
        have f1 : w3.cell? ⟨w.heap.size + 2, 1, none⟩ = some (.int .i64 nc) := (cell_of_row w3 _ 1 _ _ _ I3.out.2.2.1).trans rfl
        have f2 : w3.cell? ⟨w.heap.size + 2, 2, none⟩ = some (.string sc) := (cell_of_row w3 _ 2 _ _ _ I3.out.2.2.1).trans rfl
        go_wp2_with fail
        refine (text_t _ (by rw [ByteArray.size_extract]; have h1 := RA.out.1; unfold maxLen; omega) _).mono ?_
        rintro e w4 ⟨rfl, hb4⟩
        have I4 := Lib.hid (I3.out.below hb4)
        clear hb4
        go_wp2_with (refine store23 rfl (.tmp 6) (.tmp 52) rfl (w.heap.size + 3) (textT (s.extract F.toNat G.toNat)) rfl rfl _ I4.out.2.2.2.1 ?_; intro wz hp; have HP := Lib.hid hp; clear hp)
        exact bodyPost_ret (ret23 rfl rfl HP.out.at') rfl ⟨by rw [HN.out], HP.out.low I4.out.2.2.2.2 (by omega)⟩
  · have HN : Hid (R = nullT) := Lib.hid (by rw [← hR]; unfold partT; simp [hk])
    clear hR RX RY RZ
    obtain ⟨K, n, s⟩ := X
    dsimp only at hk
    cases hok : okB Y Z 2 2 with
    | false =>
      rw [hok] at CN
      clear hok
      obtain ⟨K1, f, t1⟩ := Y
      obtain ⟨K2, c, t2⟩ := Z
      change Hid (∀ w, Calls Tryz.prog 122 #[toV y, .int .i64 2, toV z, .int .i64 2] w fun e w' => e = .returned (.tuple #[.int .i64 0, .int .i64 0, .bool false]) ∧ Below w.heap.size w w') at CN
      obtain ⟨ka, na, sa⟩ := x
      obtain ⟨kb, nb, sb⟩ := y
      obtain ⟨kc, nc, sc⟩ := z
      change Calls Tryz.prog 53 #[val ka na sa, val kb nb sb, val kc nc sc] w _
      have I0 : Hid (In4 (ka, na, sa) (kb, nb, sb) (kc, nc, sc) w ((((w.alloc (.cells #[.int .i64 ka, .int .i64 na, .string sa] 23)).alloc (.cells #[.int .i64 kb, .int .i64 nb, .string sb] 23)).alloc (.cells #[.int .i64 kc, .int .i64 nc, .string sc] 23)).alloc (.cells #[.int .i64 0, .int .i64 0, .string ⟨#[]⟩] 23))) := Lib.hid (In4.made _ _ _ w)
      go_enter Tryz.func53, Tryz.ntmps53
      go_wp2_with fail
      refine (CX.out _).mono ?_
      rintro e w1 ⟨rfl, hb1⟩
      have I1 := Lib.hid (I0.out.below hb1)
      clear hb1
      go_wp2_with (refine store23 rfl (.tmp 3) (.tmp 12) rfl w.heap.size (K, n, s) rfl rfl _ I1.out.1 ?_; intro w2 hp; have I2 := Lib.hid (hp.in4 I1.out); clear hp; have a0 : w2.cell? ⟨w.heap.size, 0, none⟩ = some (.int .i64 K) := (cell_of_row w2 _ 0 _ _ _ I2.out.1).trans rfl; have a1 : w2.cell? ⟨w.heap.size, 1, none⟩ = some (.int .i64 n) := (cell_of_row w2 _ 1 _ _ _ I2.out.1).trans rfl; have a2 : w2.cell? ⟨w.heap.size, 2, none⟩ = some (.string s) := (cell_of_row w2 _ 2 _ _ _ I2.out.1).trans rfl; have d0 : w2.cell? ⟨w.heap.size + 1, 0, none⟩ = some (.int .i64 kb) := (cell_of_row w2 _ 0 _ _ _ I2.out.2.1).trans rfl; have d1 : w2.cell? ⟨w.heap.size + 1, 1, none⟩ = some (.int .i64 nb) := (cell_of_row w2 _ 1 _ _ _ I2.out.2.1).trans rfl; have d2 : w2.cell? ⟨w.heap.size + 1, 2, none⟩ = some (.string sb) := (cell_of_row w2 _ 2 _ _ _ I2.out.2.1).trans rfl; have f0 : w2.cell? ⟨w.heap.size + 2, 0, none⟩ = some (.int .i64 kc) := (cell_of_row w2 _ 0 _ _ _ I2.out.2.2.1).trans rfl; have f1 : w2.cell? ⟨w.heap.size + 2, 1, none⟩ = some (.int .i64 nc) := (cell_of_row w2 _ 1 _ _ _ I2.out.2.2.1).trans rfl; have f2 : w2.cell? ⟨w.heap.size + 2, 2, none⟩ = some (.string sc) := (cell_of_row w2 _ 2 _ _ _ I2.out.2.2.1).trans rfl)
      go_wp2_with fail
      refine (CN.out _).mono ?_
      rintro e w3 ⟨rfl, hb3⟩
      have I3 := Lib.hid (I2.out.below hb3)
      clear hb3
      clear a0 a1 a2 d0 d1 d2 f0 f1 f2
      have a0 : w3.cell? ⟨w.heap.size, 0, none⟩ = some (.int .i64 K) := (cell_of_row w3 _ 0 _ _ _ I3.out.1).trans rfl
      have a1 : w3.cell? ⟨w.heap.size, 1, none⟩ = some (.int .i64 n) := (cell_of_row w3 _ 1 _ _ _ I3.out.1).trans rfl
      have a2 : w3.cell? ⟨w.heap.size, 2, none⟩ = some (.string s) := (cell_of_row w3 _ 2 _ _ _ I3.out.1).trans rfl
      have d0 : w3.cell? ⟨w.heap.size + 1, 0, none⟩ = some (.int .i64 kb) := (cell_of_row w3 _ 0 _ _ _ I3.out.2.1).trans rfl
      have d1 : w3.cell? ⟨w.heap.size + 1, 1, none⟩ = some (.int .i64 nb) := (cell_of_row w3 _ 1 _ _ _ I3.out.2.1).trans rfl
      have d2 : w3.cell? ⟨w.heap.size + 1, 2, none⟩ = some (.string sb) := (cell_of_row w3 _ 2 _ _ _ I3.out.2.1).trans rfl
      have f0 : w3.cell? ⟨w.heap.size + 2, 0, none⟩ = some (.int .i64 kc) := (cell_of_row w3 _ 0 _ _ _ I3.out.2.2.1).trans rfl
      have f1 : w3.cell? ⟨w.heap.size + 2, 1, none⟩ = some (.int .i64 nc) := (cell_of_row w3 _ 1 _ _ _ I3.out.2.2.1).trans rfl
      have f2 : w3.cell? ⟨w.heap.size + 2, 2, none⟩ = some (.string sc) := (cell_of_row w3 _ 2 _ _ _ I3.out.2.2.1).trans rfl
      go_wp2_with (refine store23 rfl (.tmp 6) (.tmp 35) rfl (w.heap.size + 3) (nullT) rfl rfl _ I3.out.2.2.2.1 ?_; intro wz hp; have HP := Lib.hid hp; clear hp)
      exact bodyPost_ret (ret23 rfl rfl HP.out.at') rfl ⟨by rw [HN.out], HP.out.low I3.out.2.2.2.2 (by omega)⟩
    | true =>
      rw [hok] at CN
      clear hok
      obtain ⟨K1, f, t1⟩ := Y
      obtain ⟨K2, c, t2⟩ := Z
      change Hid (∀ w, Calls Tryz.prog 122 #[toV y, .int .i64 2, toV z, .int .i64 2] w fun e w' => e = .returned (.tuple #[.int .i64 f, .int .i64 c, .bool true]) ∧ Below w.heap.size w w') at CN
      obtain ⟨ka, na, sa⟩ := x
      obtain ⟨kb, nb, sb⟩ := y
      obtain ⟨kc, nc, sc⟩ := z
      change Calls Tryz.prog 53 #[val ka na sa, val kb nb sb, val kc nc sc] w _
      have I0 : Hid (In4 (ka, na, sa) (kb, nb, sb) (kc, nc, sc) w ((((w.alloc (.cells #[.int .i64 ka, .int .i64 na, .string sa] 23)).alloc (.cells #[.int .i64 kb, .int .i64 nb, .string sb] 23)).alloc (.cells #[.int .i64 kc, .int .i64 nc, .string sc] 23)).alloc (.cells #[.int .i64 0, .int .i64 0, .string ⟨#[]⟩] 23))) := Lib.hid (In4.made _ _ _ w)
      go_enter Tryz.func53, Tryz.ntmps53
      go_wp2_with fail
      refine (CX.out _).mono ?_
      rintro e w1 ⟨rfl, hb1⟩
      have I1 := Lib.hid (I0.out.below hb1)
      clear hb1
      go_wp2_with (refine store23 rfl (.tmp 3) (.tmp 12) rfl w.heap.size (K, n, s) rfl rfl _ I1.out.1 ?_; intro w2 hp; have I2 := Lib.hid (hp.in4 I1.out); clear hp; have a0 : w2.cell? ⟨w.heap.size, 0, none⟩ = some (.int .i64 K) := (cell_of_row w2 _ 0 _ _ _ I2.out.1).trans rfl; have a1 : w2.cell? ⟨w.heap.size, 1, none⟩ = some (.int .i64 n) := (cell_of_row w2 _ 1 _ _ _ I2.out.1).trans rfl; have a2 : w2.cell? ⟨w.heap.size, 2, none⟩ = some (.string s) := (cell_of_row w2 _ 2 _ _ _ I2.out.1).trans rfl; have d0 : w2.cell? ⟨w.heap.size + 1, 0, none⟩ = some (.int .i64 kb) := (cell_of_row w2 _ 0 _ _ _ I2.out.2.1).trans rfl; have d1 : w2.cell? ⟨w.heap.size + 1, 1, none⟩ = some (.int .i64 nb) := (cell_of_row w2 _ 1 _ _ _ I2.out.2.1).trans rfl; have d2 : w2.cell? ⟨w.heap.size + 1, 2, none⟩ = some (.string sb) := (cell_of_row w2 _ 2 _ _ _ I2.out.2.1).trans rfl; have f0 : w2.cell? ⟨w.heap.size + 2, 0, none⟩ = some (.int .i64 kc) := (cell_of_row w2 _ 0 _ _ _ I2.out.2.2.1).trans rfl; have f1 : w2.cell? ⟨w.heap.size + 2, 1, none⟩ = some (.int .i64 nc) := (cell_of_row w2 _ 1 _ _ _ I2.out.2.2.1).trans rfl; have f2 : w2.cell? ⟨w.heap.size + 2, 2, none⟩ = some (.string sc) := (cell_of_row w2 _ 2 _ _ _ I2.out.2.2.1).trans rfl)
      go_wp2_with fail
      refine (CN.out _).mono ?_
      rintro e w3 ⟨rfl, hb3⟩
      have I3 := Lib.hid (I2.out.below hb3)
      clear hb3
      clear a0 a1 a2 d0 d1 d2 f0 f1 f2
      have a0 : w3.cell? ⟨w.heap.size, 0, none⟩ = some (.int .i64 K) := (cell_of_row w3 _ 0 _ _ _ I3.out.1).trans rfl
      have a1 : w3.cell? ⟨w.heap.size, 1, none⟩ = some (.int .i64 n) := (cell_of_row w3 _ 1 _ _ _ I3.out.1).trans rfl
      have a2 : w3.cell? ⟨w.heap.size, 2, none⟩ = some (.string s) := (cell_of_row w3 _ 2 _ _ _ I3.out.1).trans rfl
      have d0 : w3.cell? ⟨w.heap.size + 1, 0, none⟩ = some (.int .i64 kb) := (cell_of_row w3 _ 0 _ _ _ I3.out.2.1).trans rfl
      have d1 : w3.cell? ⟨w.heap.size + 1, 1, none⟩ = some (.int .i64 nb) := (cell_of_row w3 _ 1 _ _ _ I3.out.2.1).trans rfl
      have d2 : w3.cell? ⟨w.heap.size + 1, 2, none⟩ = some (.string sb) := (cell_of_row w3 _ 2 _ _ _ I3.out.2.1).trans rfl
      have f0 : w3.cell? ⟨w.heap.size + 2, 0, none⟩ = some (.int .i64 kc) := (cell_of_row w3 _ 0 _ _ _ I3.out.2.2.1).trans rfl
      have f1 : w3.cell? ⟨w.heap.size + 2, 1, none⟩ = some (.int .i64 nc) := (cell_of_row w3 _ 1 _ _ _ I3.out.2.2.1).trans rfl
      have f2 : w3.cell? ⟨w.heap.size + 2, 2, none⟩ = some (.string sc) := (cell_of_row w3 _ 2 _ _ _ I3.out.2.2.1).trans rfl
      go_wp2_with (refine store23 rfl (.tmp 6) (.tmp 35) rfl (w.heap.size + 3) (nullT) rfl rfl _ I3.out.2.2.2.1 ?_; intro wz hp; have HP := Lib.hid hp; clear hp)
      exact bodyPost_ret (ret23 rfl rfl HP.out.at') rfl ⟨by rw [HN.out], HP.out.low I3.out.2.2.2.2 (by omega)⟩
end YtabojeleomfgnaaGreatDoor
end Go.Proofs
