/- The reference: texts. -/
import Derived.Test.YtabojeleomfgnaaGreatDoorWd2
namespace Go.Proofs
open Go.RowKit
namespace YtabojeleomfgnaaGreatDoor
set_option maxRecDepth 100000
def partT (X Y Z : V3) : V3 := if (X.1 != 3 || !(okB Y Z 2 2) || decide (Y.2.1 < 0) || decide (Z.2.1 < 0)) = true then nullT else textT (X.2.2.extract (min Y.2.1 X.2.2.size).toNat (min (min Y.2.1 X.2.2.size + Z.2.1) X.2.2.size).toNat)
set_option maxHeartbeats 2000000 in
theorem texts20 (x y z : V3) (hx : Right x) (hy : Right y) (hz : Right z) (w : World) : Calls Tryz.prog 119 #[.int .i64 20, toV x, toV y, toV z] w fun e w' => e = .returned (toV (lowerT x)) ∧ Below w.heap.size w w' := by
  have RX := Lib.hid hx
  have RY := Lib.hid hy.bounds
  have RZ := Lib.hid hz.bounds
  have HE := Lib.hid (show lowerT x = lowerT x from rfl)
  generalize hR : lowerT x = R at HE ⊢
  clear HE
  by_cases hk : x.1 = 3
  · have RA := Lib.hid (RX.out.ascii hk)
    clear RX hx hy hz
    have HN : Hid (R = textT (mapT lowB x.2.2)) := Lib.hid (by rw [← hR]; unfold lowerT; simp [hk])
    clear hR RY RZ
    obtain ⟨ka, na, sa⟩ := x
    dsimp only at hk RA HN
    subst hk
    obtain ⟨kb, nb, sb⟩ := y
    obtain ⟨kc, nc, sc⟩ := z
    change Calls Tryz.prog 119 #[.int .i64 20, val 3 na sa, val kb nb sb, val kc nc sc] w _
    have I0 : Hid (In4 (3, na, sa) (kb, nb, sb) (kc, nc, sc) w ((((w.alloc (.cells #[.int .i64 3, .int .i64 na, .string sa] 23)).alloc (.cells #[.int .i64 kb, .int .i64 nb, .string sb] 23)).alloc (.cells #[.int .i64 kc, .int .i64 nc, .string sc] 23)).alloc (.cells #[.int .i64 0, .int .i64 0, .string ⟨#[]⟩] 23))) := Lib.hid (In4.made _ _ _ w)
    go_enter Tryz.func119, Tryz.ntmps119
    go_wp2_with fail
    refine (lower_t sa RA.out.1 RA.out.2 _).mono ?_
    rintro e w1 ⟨rfl, hb1⟩
    have I1 := Lib.hid (I0.out.below hb1)
    clear hb1
    have a0 : w1.cell? ⟨w.heap.size, 0, none⟩ = some (.int .i64 3) := (cell_of_row w1 _ 0 _ _ _ I1.out.1).trans rfl
    have a1 : w1.cell? ⟨w.heap.size, 1, none⟩ = some (.int .i64 na) := (cell_of_row w1 _ 1 _ _ _ I1.out.1).trans rfl
    have a2 : w1.cell? ⟨w.heap.size, 2, none⟩ = some (.string sa) := (cell_of_row w1 _ 2 _ _ _ I1.out.1).trans rfl
    have d0 : w1.cell? ⟨w.heap.size + 1, 0, none⟩ = some (.int .i64 kb) := (cell_of_row w1 _ 0 _ _ _ I1.out.2.1).trans rfl
    have d1 : w1.cell? ⟨w.heap.size + 1, 1, none⟩ = some (.int .i64 nb) := (cell_of_row w1 _ 1 _ _ _ I1.out.2.1).trans rfl
    have d2 : w1.cell? ⟨w.heap.size + 1, 2, none⟩ = some (.string sb) := (cell_of_row w1 _ 2 _ _ _ I1.out.2.1).trans rfl
    have f0 : w1.cell? ⟨w.heap.size + 2, 0, none⟩ = some (.int .i64 kc) := (cell_of_row w1 _ 0 _ _ _ I1.out.2.2.1).trans rfl
    have f1 : w1.cell? ⟨w.heap.size + 2, 1, none⟩ = some (.int .i64 nc) := (cell_of_row w1 _ 1 _ _ _ I1.out.2.2.1).trans rfl
    have f2 : w1.cell? ⟨w.heap.size + 2, 2, none⟩ = some (.string sc) := (cell_of_row w1 _ 2 _ _ _ I1.out.2.2.1).trans rfl
    go_wp2_with fail
    refine (word_t _ (by rw [map_size]; have := RA.out.1; unfold maxLen; omega) _).mono ?_
    rintro e w2 ⟨rfl, hb2⟩
    have I2 := Lib.hid (I1.out.below hb2)
    clear hb2
    go_wp2_with (refine store23 rfl (.tmp 8) (.tmp 20) rfl (w.heap.size + 3) (textT (mapT lowB sa)) rfl rfl _ I2.out.2.2.2.1 ?_; intro wz hp; have HP := Lib.hid hp; clear hp)
    exact bodyPost_ret (ret23 rfl rfl HP.out.at') rfl ⟨by rw [HN.out], HP.out.low I2.out.2.2.2.2 (by omega)⟩
  · have HN : Hid (R = nullT) := Lib.hid (by rw [← hR]; unfold lowerT; simp [hk])
    clear hR RX RY RZ hx hy hz
    obtain ⟨ka, na, sa⟩ := x
    obtain ⟨kb, nb, sb⟩ := y
    obtain ⟨kc, nc, sc⟩ := z
    change Calls Tryz.prog 119 #[.int .i64 20, val ka na sa, val kb nb sb, val kc nc sc] w _
    have I0 : Hid (In4 (ka, na, sa) (kb, nb, sb) (kc, nc, sc) w ((((w.alloc (.cells #[.int .i64 ka, .int .i64 na, .string sa] 23)).alloc (.cells #[.int .i64 kb, .int .i64 nb, .string sb] 23)).alloc (.cells #[.int .i64 kc, .int .i64 nc, .string sc] 23)).alloc (.cells #[.int .i64 0, .int .i64 0, .string ⟨#[]⟩] 23))) := Lib.hid (In4.made _ _ _ w)
    go_enter Tryz.func119, Tryz.ntmps119
    go_wp2_with (refine store23 rfl (.tmp 8) (.tmp 13) rfl (w.heap.size + 3) (nullT) rfl rfl _ I0.out.2.2.2.1 ?_; intro wz hp; have HP := Lib.hid hp; clear hp)
    exact bodyPost_ret (ret23 rfl rfl HP.out.at') rfl ⟨by rw [HN.out], HP.out.low I0.out.2.2.2.2 (by omega)⟩
set_option maxHeartbeats 2000000 in
theorem texts21 (x y z : V3) (hx : Right x) (hy : Right y) (hz : Right z) (w : World) : Calls Tryz.prog 119 #[.int .i64 21, toV x, toV y, toV z] w fun e w' => e = .returned (toV (upperT x)) ∧ Below w.heap.size w w' := by
  have RX := Lib.hid hx
  have RY := Lib.hid hy.bounds
  have RZ := Lib.hid hz.bounds
  have HE := Lib.hid (show upperT x = upperT x from rfl)
  generalize hR : upperT x = R at HE ⊢
  clear HE
  by_cases hk : x.1 = 3
  · have RA := Lib.hid (RX.out.ascii hk)
    clear RX hx hy hz
    have HN : Hid (R = textT (mapT upB x.2.2)) := Lib.hid (by rw [← hR]; unfold upperT; simp [hk])
    clear hR RY RZ
    obtain ⟨ka, na, sa⟩ := x
    dsimp only at hk RA HN
    subst hk
    obtain ⟨kb, nb, sb⟩ := y
    obtain ⟨kc, nc, sc⟩ := z
    change Calls Tryz.prog 119 #[.int .i64 21, val 3 na sa, val kb nb sb, val kc nc sc] w _
    have I0 : Hid (In4 (3, na, sa) (kb, nb, sb) (kc, nc, sc) w ((((w.alloc (.cells #[.int .i64 3, .int .i64 na, .string sa] 23)).alloc (.cells #[.int .i64 kb, .int .i64 nb, .string sb] 23)).alloc (.cells #[.int .i64 kc, .int .i64 nc, .string sc] 23)).alloc (.cells #[.int .i64 0, .int .i64 0, .string ⟨#[]⟩] 23))) := Lib.hid (In4.made _ _ _ w)
    go_enter Tryz.func119, Tryz.ntmps119
    go_wp2_with fail
    refine (upper_t sa RA.out.1 RA.out.2 _).mono ?_
    rintro e w1 ⟨rfl, hb1⟩
    have I1 := Lib.hid (I0.out.below hb1)
    clear hb1
    have a0 : w1.cell? ⟨w.heap.size, 0, none⟩ = some (.int .i64 3) := (cell_of_row w1 _ 0 _ _ _ I1.out.1).trans rfl
    have a1 : w1.cell? ⟨w.heap.size, 1, none⟩ = some (.int .i64 na) := (cell_of_row w1 _ 1 _ _ _ I1.out.1).trans rfl
    have a2 : w1.cell? ⟨w.heap.size, 2, none⟩ = some (.string sa) := (cell_of_row w1 _ 2 _ _ _ I1.out.1).trans rfl
    have d0 : w1.cell? ⟨w.heap.size + 1, 0, none⟩ = some (.int .i64 kb) := (cell_of_row w1 _ 0 _ _ _ I1.out.2.1).trans rfl
    have d1 : w1.cell? ⟨w.heap.size + 1, 1, none⟩ = some (.int .i64 nb) := (cell_of_row w1 _ 1 _ _ _ I1.out.2.1).trans rfl
    have d2 : w1.cell? ⟨w.heap.size + 1, 2, none⟩ = some (.string sb) := (cell_of_row w1 _ 2 _ _ _ I1.out.2.1).trans rfl
    have f0 : w1.cell? ⟨w.heap.size + 2, 0, none⟩ = some (.int .i64 kc) := (cell_of_row w1 _ 0 _ _ _ I1.out.2.2.1).trans rfl
    have f1 : w1.cell? ⟨w.heap.size + 2, 1, none⟩ = some (.int .i64 nc) := (cell_of_row w1 _ 1 _ _ _ I1.out.2.2.1).trans rfl
    have f2 : w1.cell? ⟨w.heap.size + 2, 2, none⟩ = some (.string sc) := (cell_of_row w1 _ 2 _ _ _ I1.out.2.2.1).trans rfl
    go_wp2_with fail
    refine (word_t _ (by rw [map_size]; have := RA.out.1; unfold maxLen; omega) _).mono ?_
    rintro e w2 ⟨rfl, hb2⟩
    have I2 := Lib.hid (I1.out.below hb2)
    clear hb2
    go_wp2_with (refine store23 rfl (.tmp 8) (.tmp 26) rfl (w.heap.size + 3) (textT (mapT upB sa)) rfl rfl _ I2.out.2.2.2.1 ?_; intro wz hp; have HP := Lib.hid hp; clear hp)
    exact bodyPost_ret (ret23 rfl rfl HP.out.at') rfl ⟨by rw [HN.out], HP.out.low I2.out.2.2.2.2 (by omega)⟩
  · have HN : Hid (R = nullT) := Lib.hid (by rw [← hR]; unfold upperT; simp [hk])
    clear hR RX RY RZ hx hy hz
    obtain ⟨ka, na, sa⟩ := x
    obtain ⟨kb, nb, sb⟩ := y
    obtain ⟨kc, nc, sc⟩ := z
    change Calls Tryz.prog 119 #[.int .i64 21, val ka na sa, val kb nb sb, val kc nc sc] w _
    have I0 : Hid (In4 (ka, na, sa) (kb, nb, sb) (kc, nc, sc) w ((((w.alloc (.cells #[.int .i64 ka, .int .i64 na, .string sa] 23)).alloc (.cells #[.int .i64 kb, .int .i64 nb, .string sb] 23)).alloc (.cells #[.int .i64 kc, .int .i64 nc, .string sc] 23)).alloc (.cells #[.int .i64 0, .int .i64 0, .string ⟨#[]⟩] 23))) := Lib.hid (In4.made _ _ _ w)
    go_enter Tryz.func119, Tryz.ntmps119
    go_wp2_with (refine store23 rfl (.tmp 8) (.tmp 13) rfl (w.heap.size + 3) (nullT) rfl rfl _ I0.out.2.2.2.1 ?_; intro wz hp; have HP := Lib.hid hp; clear hp)
    exact bodyPost_ret (ret23 rfl rfl HP.out.at') rfl ⟨by rw [HN.out], HP.out.low I0.out.2.2.2.2 (by omega)⟩
set_option maxHeartbeats 2000000 in
theorem texts22 (x y z : V3) (hx : Right x) (hy : Right y) (hz : Right z) (w : World) : Calls Tryz.prog 119 #[.int .i64 22, toV x, toV y, toV z] w fun e w' => e = .returned (toV (lengthT x)) ∧ Below w.heap.size w w' := by
  have RX := Lib.hid hx
  have RY := Lib.hid hy.bounds
  have RZ := Lib.hid hz.bounds
  have HE := Lib.hid (show lengthT x = lengthT x from rfl)
  generalize hR : lengthT x = R at HE ⊢
  clear HE
  by_cases hk : x.1 = 3
  · have RA := Lib.hid (RX.out.ascii hk)
    clear RX hx hy hz
    have HN : Hid (R = numT 2 x.2.2.size) := Lib.hid (by rw [← hR]; unfold lengthT; simp [hk])
    clear hR RY RZ
    obtain ⟨ka, na, sa⟩ := x
    dsimp only at hk RA HN
    subst hk
    obtain ⟨kb, nb, sb⟩ := y
    obtain ⟨kc, nc, sc⟩ := z
    change Calls Tryz.prog 119 #[.int .i64 22, val 3 na sa, val kb nb sb, val kc nc sc] w _
    have I0 : Hid (In4 (3, na, sa) (kb, nb, sb) (kc, nc, sc) w ((((w.alloc (.cells #[.int .i64 3, .int .i64 na, .string sa] 23)).alloc (.cells #[.int .i64 kb, .int .i64 nb, .string sb] 23)).alloc (.cells #[.int .i64 kc, .int .i64 nc, .string sc] 23)).alloc (.cells #[.int .i64 0, .int .i64 0, .string ⟨#[]⟩] 23))) := Lib.hid (In4.made _ _ _ w)
    go_enter Tryz.func119, Tryz.ntmps119
    go_wp2_with fail
    refine (rnumber_t _ _).mono ?_
    rintro e w1 ⟨rfl, hb1⟩
    have I1 := Lib.hid (I0.out.below hb1)
    clear hb1
    go_wp2_with (refine store23 rfl (.tmp 8) (.tmp 32) rfl (w.heap.size + 3) (numT 2 sa.size) rfl rfl _ I1.out.2.2.2.1 ?_; intro wz hp; have HP := Lib.hid hp; clear hp)
    exact bodyPost_ret (ret23 rfl rfl HP.out.at') rfl ⟨by rw [HN.out], HP.out.low I1.out.2.2.2.2 (by omega)⟩
  · have HN : Hid (R = nullT) := Lib.hid (by rw [← hR]; unfold lengthT; simp [hk])
    clear hR RX RY RZ hx hy hz
    obtain ⟨ka, na, sa⟩ := x
    obtain ⟨kb, nb, sb⟩ := y
    obtain ⟨kc, nc, sc⟩ := z
    change Calls Tryz.prog 119 #[.int .i64 22, val ka na sa, val kb nb sb, val kc nc sc] w _
    have I0 : Hid (In4 (ka, na, sa) (kb, nb, sb) (kc, nc, sc) w ((((w.alloc (.cells #[.int .i64 ka, .int .i64 na, .string sa] 23)).alloc (.cells #[.int .i64 kb, .int .i64 nb, .string sb] 23)).alloc (.cells #[.int .i64 kc, .int .i64 nc, .string sc] 23)).alloc (.cells #[.int .i64 0, .int .i64 0, .string ⟨#[]⟩] 23))) := Lib.hid (In4.made _ _ _ w)
    go_enter Tryz.func119, Tryz.ntmps119
    go_wp2_with (refine store23 rfl (.tmp 8) (.tmp 13) rfl (w.heap.size + 3) (nullT) rfl rfl _ I0.out.2.2.2.1 ?_; intro wz hp; have HP := Lib.hid hp; clear hp)
    exact bodyPost_ret (ret23 rfl rfl HP.out.at') rfl ⟨by rw [HN.out], HP.out.low I0.out.2.2.2.2 (by omega)⟩
set_option maxHeartbeats 2000000 in
theorem texts18 (x y z : V3) (hx : Right x) (hy : Right y) (hz : Right z) (w : World) : Calls Tryz.prog 119 #[.int .i64 18, toV x, toV y, toV z] w fun e w' => e = .returned (toV (concatT x y)) ∧ Below w.heap.size w w' := by
  have RX := Lib.hid hx
  have RY := Lib.hid hy.bounds
  have RZ := Lib.hid hz.bounds
  have HE := Lib.hid (show concatT x y = concatT x y from rfl)
  generalize hR : concatT x y = R at HE ⊢
  clear HE
  by_cases hk : x.1 = 3
  · have RA := Lib.hid (RX.out.ascii hk)
    clear RX hx hy hz
    by_cases hl : y.1 = 3
    · have HN : Hid (R = textT (x.2.2 ++ y.2.2)) := Lib.hid (by rw [← hR]; unfold concatT; simp [okB, hk, hl])
      clear hR RZ
      obtain ⟨ka, na, sa⟩ := x
      obtain ⟨kb, nb, sb⟩ := y
      dsimp only at hk hl RA RY HN
      subst hk hl
      have z1 : sa.size ≤ 100 := RA.out.1
      have z2 : sb.size ≤ 100 := RY.out.2.2.2.2
      obtain ⟨kc, nc, sc⟩ := z
      change Calls Tryz.prog 119 #[.int .i64 18, val 3 na sa, val 3 nb sb, val kc nc sc] w _
      have I0 : Hid (In4 (3, na, sa) (3, nb, sb) (kc, nc, sc) w ((((w.alloc (.cells #[.int .i64 3, .int .i64 na, .string sa] 23)).alloc (.cells #[.int .i64 3, .int .i64 nb, .string sb] 23)).alloc (.cells #[.int .i64 kc, .int .i64 nc, .string sc] 23)).alloc (.cells #[.int .i64 0, .int .i64 0, .string ⟨#[]⟩] 23))) := Lib.hid (In4.made _ _ _ w)
      go_enter Tryz.func119, Tryz.ntmps119
      go_wp2_with fail
      refine (word_t (sa ++ sb) (by have h1 := RA.out.1; have h2 := RY.out.2.2.2.2; simp only [ByteArray.size_append]; unfold maxLen; omega) _).mono ?_
      rintro e w1 ⟨rfl, hb1⟩
      have I1 := Lib.hid (I0.out.below hb1)
      clear hb1
      go_wp2_with (refine store23 rfl (.tmp 8) (.tmp 90) rfl (w.heap.size + 3) (textT (sa ++ sb)) rfl rfl _ I1.out.2.2.2.1 ?_; intro wz hp; have HP := Lib.hid hp; clear hp)
      exact bodyPost_ret (ret23 rfl rfl HP.out.at') rfl ⟨by rw [HN.out], HP.out.low I1.out.2.2.2.2 (by omega)⟩
    · have HN : Hid (R = nullT) := Lib.hid (by rw [← hR]; unfold concatT; simp [okB, hk, hl])
      clear hR RA RY RZ
      obtain ⟨ka, na, sa⟩ := x
      obtain ⟨kb, nb, sb⟩ := y
      dsimp only at hk hl
      subst hk
      obtain ⟨kc, nc, sc⟩ := z
      change Calls Tryz.prog 119 #[.int .i64 18, val 3 na sa, val kb nb sb, val kc nc sc] w _
      have I0 : Hid (In4 (3, na, sa) (kb, nb, sb) (kc, nc, sc) w ((((w.alloc (.cells #[.int .i64 3, .int .i64 na, .string sa] 23)).alloc (.cells #[.int .i64 kb, .int .i64 nb, .string sb] 23)).alloc (.cells #[.int .i64 kc, .int .i64 nc, .string sc] 23)).alloc (.cells #[.int .i64 0, .int .i64 0, .string ⟨#[]⟩] 23))) := Lib.hid (In4.made _ _ _ w)
      go_enter Tryz.func119, Tryz.ntmps119
      go_wp2_with (refine store23 rfl (.tmp 8) (.tmp 76) rfl (w.heap.size + 3) (nullT) rfl rfl _ I0.out.2.2.2.1 ?_; intro wz hp; have HP := Lib.hid hp; clear hp)
      exact bodyPost_ret (ret23 rfl rfl HP.out.at') rfl ⟨by rw [HN.out], HP.out.low I0.out.2.2.2.2 (by omega)⟩
  · have HN : Hid (R = nullT) := Lib.hid (by rw [← hR]; unfold concatT; simp [okB, hk])
    clear hR RX RY RZ hx hy hz
    obtain ⟨ka, na, sa⟩ := x
    obtain ⟨kb, nb, sb⟩ := y
    obtain ⟨kc, nc, sc⟩ := z
    change Calls Tryz.prog 119 #[.int .i64 18, val ka na sa, val kb nb sb, val kc nc sc] w _
    have I0 : Hid (In4 (ka, na, sa) (kb, nb, sb) (kc, nc, sc) w ((((w.alloc (.cells #[.int .i64 ka, .int .i64 na, .string sa] 23)).alloc (.cells #[.int .i64 kb, .int .i64 nb, .string sb] 23)).alloc (.cells #[.int .i64 kc, .int .i64 nc, .string sc] 23)).alloc (.cells #[.int .i64 0, .int .i64 0, .string ⟨#[]⟩] 23))) := Lib.hid (In4.made _ _ _ w)
    go_enter Tryz.func119, Tryz.ntmps119
    go_wp2_with (refine store23 rfl (.tmp 8) (.tmp 13) rfl (w.heap.size + 3) (nullT) rfl rfl _ I0.out.2.2.2.1 ?_; intro wz hp; have HP := Lib.hid hp; clear hp)
    exact bodyPost_ret (ret23 rfl rfl HP.out.at') rfl ⟨by rw [HN.out], HP.out.low I0.out.2.2.2.2 (by omega)⟩
set_option maxHeartbeats 2000000 in
theorem texts23 (x y z : V3) (hx : Right x) (hy : Right y) (hz : Right z) (w : World) : Calls Tryz.prog 119 #[.int .i64 23, toV x, toV y, toV z] w fun e w' => e = .returned (toV (partT x y z)) ∧ Below w.heap.size w w' := by
  have RX := Lib.hid hx
  have RY := Lib.hid hy.bounds
  have RZ := Lib.hid hz.bounds
  have HE := Lib.hid (show partT x y z = partT x y z from rfl)
  generalize hR : partT x y z = R at HE ⊢
  clear HE
  by_cases hk : x.1 = 3
  · have RA := Lib.hid (RX.out.ascii hk)
    clear RX hx hy hz
    by_cases hl : y.1 = 2 ∧ z.1 = 2 ∧ 0 ≤ y.2.1 ∧ 0 ≤ z.2.1
    · have HN : Hid (R = textT (x.2.2.extract (min y.2.1 x.2.2.size).toNat (min (min y.2.1 x.2.2.size + z.2.1) x.2.2.size).toNat)) := Lib.hid (by rw [← hR]; unfold partT; rw [if_neg (by simp [okB, hk, hl.1, hl.2.1]; omega)])
      clear hR
      obtain ⟨ka, na, sa⟩ := x
      obtain ⟨kb, nb, sb⟩ := y
      obtain ⟨kc, nc, sc⟩ := z
      obtain ⟨l1, l2, l3, l4⟩ := hl
      dsimp only at hk l1 l2 l3 l4 RA HN RY RZ
      subst hk l1 l2
      obtain ⟨_, _, _, r1, _⟩ := RY.out
      obtain ⟨_, _, _, r2, _⟩ := RZ.out
      try dsimp only at r1
      try dsimp only at r2
      clear RY RZ
      have r3 := RA.out.1
      obtain ⟨F, hF⟩ : ∃ F : Int, min nb sa.size = F := ⟨_, rfl⟩
      have f1 : 0 ≤ F := by omega
      have f2 : F ≤ sa.size := by omega
      rw [hF] at HN
      obtain ⟨G, hG⟩ : ∃ G : Int, min (F + nc) sa.size = G := ⟨_, rfl⟩
      have f3 : F ≤ G := by omega
      have f4 : G ≤ sa.size := by omega
      rw [hG] at HN
      change Calls Tryz.prog 119 #[.int .i64 23, val 3 na sa, val 2 nb sb, val 2 nc sc] w _
      have I0 : Hid (In4 (3, na, sa) (2, nb, sb) (2, nc, sc) w ((((w.alloc (.cells #[.int .i64 3, .int .i64 na, .string sa] 23)).alloc (.cells #[.int .i64 2, .int .i64 nb, .string sb] 23)).alloc (.cells #[.int .i64 2, .int .i64 nc, .string sc] 23)).alloc (.cells #[.int .i64 0, .int .i64 0, .string ⟨#[]⟩] 23))) := Lib.hid (In4.made _ _ _ w)
      go_enter Tryz.func119, Tryz.ntmps119
      go_wp2_with fail
      refine (word_t _ (by rw [ByteArray.size_extract]; have h1 := RA.out.1; unfold maxLen; omega) _).mono ?_
      rintro e w1 ⟨rfl, hb1⟩
      have I1 := Lib.hid (I0.out.below hb1)
      clear hb1
      go_wp2_with (refine store23 rfl (.tmp 8) (.tmp 72) rfl (w.heap.size + 3) (textT (sa.extract F.toNat G.toNat)) rfl rfl _ I1.out.2.2.2.1 ?_; intro wz hp; have HP := Lib.hid hp; clear hp)
      exact bodyPost_ret (ret23 rfl rfl HP.out.at') rfl ⟨by rw [HN.out], HP.out.low I1.out.2.2.2.2 (by omega)⟩
    · have HN : Hid (R = nullT) := Lib.hid (by rw [← hR]; unfold partT; rw [if_pos (by simp [okB, hk]; omega)])
      clear hR RA
      have b1 := RY.out
      have b2 := RZ.out
      clear RY RZ
      rcases (by omega : ¬ y.1 = 2 ∨ (y.1 = 2 ∧ ¬ z.1 = 2) ∨ (y.1 = 2 ∧ z.1 = 2 ∧ y.2.1 < 0) ∨ (y.1 = 2 ∧ z.1 = 2 ∧ 0 ≤ y.2.1 ∧ z.2.1 < 0)) with c1 | ⟨c1, c2⟩ | ⟨c1, c2, c3⟩ | ⟨c1, c2, c3, c4⟩
      · obtain ⟨ka, na, sa⟩ := x
        obtain ⟨kb, nb, sb⟩ := y
        obtain ⟨kc, nc, sc⟩ := z
        dsimp only at hk c1
        clear b1 b2 hl
        subst hk
        change Calls Tryz.prog 119 #[.int .i64 23, val 3 na sa, val kb nb sb, val kc nc sc] w _
        have I0 : Hid (In4 (3, na, sa) (kb, nb, sb) (kc, nc, sc) w ((((w.alloc (.cells #[.int .i64 3, .int .i64 na, .string sa] 23)).alloc (.cells #[.int .i64 kb, .int .i64 nb, .string sb] 23)).alloc (.cells #[.int .i64 kc, .int .i64 nc, .string sc] 23)).alloc (.cells #[.int .i64 0, .int .i64 0, .string ⟨#[]⟩] 23))) := Lib.hid (In4.made _ _ _ w)
        go_enter Tryz.func119, Tryz.ntmps119
        go_wp2_with (refine store23 rfl (.tmp 8) (.tmp 53) rfl (w.heap.size + 3) (nullT) rfl rfl _ I0.out.2.2.2.1 ?_; intro wz hp; have HP := Lib.hid hp; clear hp)
        exact bodyPost_ret (ret23 rfl rfl HP.out.at') rfl ⟨by rw [HN.out], HP.out.low I0.out.2.2.2.2 (by omega)⟩
      · obtain ⟨ka, na, sa⟩ := x
        obtain ⟨kb, nb, sb⟩ := y
        obtain ⟨kc, nc, sc⟩ := z
        dsimp only at hk c1 c2
        clear b1 b2 hl
        subst hk
        subst c1
        change Calls Tryz.prog 119 #[.int .i64 23, val 3 na sa, val 2 nb sb, val kc nc sc] w _
        have I0 : Hid (In4 (3, na, sa) (2, nb, sb) (kc, nc, sc) w ((((w.alloc (.cells #[.int .i64 3, .int .i64 na, .string sa] 23)).alloc (.cells #[.int .i64 2, .int .i64 nb, .string sb] 23)).alloc (.cells #[.int .i64 kc, .int .i64 nc, .string sc] 23)).alloc (.cells #[.int .i64 0, .int .i64 0, .string ⟨#[]⟩] 23))) := Lib.hid (In4.made _ _ _ w)
        go_enter Tryz.func119, Tryz.ntmps119
        go_wp2_with (refine store23 rfl (.tmp 8) (.tmp 53) rfl (w.heap.size + 3) (nullT) rfl rfl _ I0.out.2.2.2.1 ?_; intro wz hp; have HP := Lib.hid hp; clear hp)
        exact bodyPost_ret (ret23 rfl rfl HP.out.at') rfl ⟨by rw [HN.out], HP.out.low I0.out.2.2.2.2 (by omega)⟩
      · obtain ⟨ka, na, sa⟩ := x
        obtain ⟨kb, nb, sb⟩ := y
        obtain ⟨kc, nc, sc⟩ := z
        dsimp only at hk c1 c2 c3
        clear b1 b2 hl
        subst hk
        subst c1
        subst c2
        change Calls Tryz.prog 119 #[.int .i64 23, val 3 na sa, val 2 nb sb, val 2 nc sc] w _
        have I0 : Hid (In4 (3, na, sa) (2, nb, sb) (2, nc, sc) w ((((w.alloc (.cells #[.int .i64 3, .int .i64 na, .string sa] 23)).alloc (.cells #[.int .i64 2, .int .i64 nb, .string sb] 23)).alloc (.cells #[.int .i64 2, .int .i64 nc, .string sc] 23)).alloc (.cells #[.int .i64 0, .int .i64 0, .string ⟨#[]⟩] 23))) := Lib.hid (In4.made _ _ _ w)
        go_enter Tryz.func119, Tryz.ntmps119
        go_wp2_with (refine store23 rfl (.tmp 8) (.tmp 53) rfl (w.heap.size + 3) (nullT) rfl rfl _ I0.out.2.2.2.1 ?_; intro wz hp; have HP := Lib.hid hp; clear hp)
        exact bodyPost_ret (ret23 rfl rfl HP.out.at') rfl ⟨by rw [HN.out], HP.out.low I0.out.2.2.2.2 (by omega)⟩
      · obtain ⟨ka, na, sa⟩ := x
        obtain ⟨kb, nb, sb⟩ := y
        obtain ⟨kc, nc, sc⟩ := z
        dsimp only at hk c1 c2 c3 c4
        clear b1 b2 hl
        subst hk
        subst c1
        subst c2
        change Calls Tryz.prog 119 #[.int .i64 23, val 3 na sa, val 2 nb sb, val 2 nc sc] w _
        have I0 : Hid (In4 (3, na, sa) (2, nb, sb) (2, nc, sc) w ((((w.alloc (.cells #[.int .i64 3, .int .i64 na, .string sa] 23)).alloc (.cells #[.int .i64 2, .int .i64 nb, .string sb] 23)).alloc (.cells #[.int .i64 2, .int .i64 nc, .string sc] 23)).alloc (.cells #[.int .i64 0, .int .i64 0, .string ⟨#[]⟩] 23))) := Lib.hid (In4.made _ _ _ w)
        go_enter Tryz.func119, Tryz.ntmps119
        go_wp2_with (refine store23 rfl (.tmp 8) (.tmp 53) rfl (w.heap.size + 3) (nullT) rfl rfl _ I0.out.2.2.2.1 ?_; intro wz hp; have HP := Lib.hid hp; clear hp)
        exact bodyPost_ret (ret23 rfl rfl HP.out.at') rfl ⟨by rw [HN.out], HP.out.low I0.out.2.2.2.2 (by omega)⟩
  · have HN : Hid (R = nullT) := Lib.hid (by rw [← hR]; unfold partT; simp [okB, hk])
    clear hR RX RY RZ hx hy hz
    obtain ⟨ka, na, sa⟩ := x
    obtain ⟨kb, nb, sb⟩ := y
    obtain ⟨kc, nc, sc⟩ := z
    change Calls Tryz.prog 119 #[.int .i64 23, val ka na sa, val kb nb sb, val kc nc sc] w _
    have I0 : Hid (In4 (ka, na, sa) (kb, nb, sb) (kc, nc, sc) w ((((w.alloc (.cells #[.int .i64 ka, .int .i64 na, .string sa] 23)).alloc (.cells #[.int .i64 kb, .int .i64 nb, .string sb] 23)).alloc (.cells #[.int .i64 kc, .int .i64 nc, .string sc] 23)).alloc (.cells #[.int .i64 0, .int .i64 0, .string ⟨#[]⟩] 23))) := Lib.hid (In4.made _ _ _ w)
    go_enter Tryz.func119, Tryz.ntmps119
    go_wp2_with (refine store23 rfl (.tmp 8) (.tmp 13) rfl (w.heap.size + 3) (nullT) rfl rfl _ I0.out.2.2.2.1 ?_; intro wz hp; have HP := Lib.hid hp; clear hp)
    exact bodyPost_ret (ret23 rfl rfl HP.out.at') rfl ⟨by rw [HN.out], HP.out.low I0.out.2.2.2.2 (by omega)⟩
end YtabojeleomfgnaaGreatDoor
end Go.Proofs
