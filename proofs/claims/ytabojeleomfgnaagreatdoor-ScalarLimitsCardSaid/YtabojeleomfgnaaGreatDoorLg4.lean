/- Same; when a comparison is 0. -/
import Derived.Test.YtabojeleomfgnaaGreatDoorLg3
namespace Go.Proofs
open Go.RowKit
namespace YtabojeleomfgnaaGreatDoor
set_option maxRecDepth 100000
theorem compareBytes_zero : ∀ (a b : List UInt8), Lib.compareBytes a b = 0 ↔ a = b
  | [], [] => by simp [Lib.compareBytes]
  | [], _ :: _ => by simp [Lib.compareBytes]
  | _ :: _, [] => by simp [Lib.compareBytes]
  | a :: l, b :: l' => by
    have ih := compareBytes_zero l l'
    unfold Lib.compareBytes
    by_cases h1 : a < b
    · have : a ≠ b := by intro e; subst e; exact absurd h1 (by simp)
      simp [h1, this]
    · by_cases h2 : b < a
      · have : a ≠ b := by intro e; subst e; exact absurd h2 (by simp)
        simp [h1, h2, this]
      · have e : a = b := by
          have h3 : ¬ a.toNat < b.toNat := by simpa [UInt8.lt_iff_toNat_lt] using h1
          have h4 : ¬ b.toNat < a.toNat := by simpa [UInt8.lt_iff_toNat_lt] using h2
          exact UInt8.toNat_inj.mp (by omega)
        rw [if_neg h1, if_neg h2, ih]
        simp [e]
theorem In3.drew {x y : V3} {w0 w : World} (h : In3 x y w0 w) : In3 x y w0 w.drew := ⟨h.1, h.2.1, h.2.2.1, ⟨h.2.2.2.os, h.2.2.2.tape, h.2.2.2.output, h.2.2.2.size, h.2.2.2.block⟩⟩
theorem sg_zero (x : Int) : sg x = 0 ↔ x = 0 := by
  unfold sg
  constructor
  · intro h; split at h <;> (try split at h) <;> omega
  · rintro rfl; rfl
theorem Right.form {x : V3} (h : Right x) : (x.1 = 3 → x.2.1 = 0) ∧ (x.1 ≠ 3 → x.2.2 = ByteArray.empty) := by
  obtain ⟨k, n, s⟩ := x
  unfold Right rightB at h
  simp only [Bool.and_eq_true, decide_eq_true_eq] at h
  have h1 := h.1
  have em : ∀ t : ByteArray, t.toList = [] → t = ByteArray.empty := fun t ht => (bytes_eq t ByteArray.empty).mp (by rw [ht]; simp [ByteArray.toList_eq])
  unfold formedB at h1
  constructor
  · intro e; dsimp only at e ⊢; subst e; simpa using h1
  · intro e
    dsimp only at e ⊢
    by_cases e0 : k = 0
    · subst e0; simp at h1; exact em s h1.2
    · by_cases e1 : k = 1 ∨ k = 2 ∨ k = 4
      · rw [if_neg e0, if_pos e1] at h1; exact em s (by simpa using h1)
      · rw [if_neg e0, if_neg e1, if_neg e] at h1; cases h1
theorem cmp3_zero (x y : V3) : (cmp3 x y == 0) = decide (clT x = clT y) := by
  rw [cmp3_cl]
  have hX := clT_right x
  have hY := clT_right y
  generalize clT x = X at hX ⊢
  generalize clT y = Y at hY ⊢
  have fX := hX.form
  have fY := hY.form
  obtain ⟨k, n, s⟩ := X
  obtain ⟨k', n', s'⟩ := Y
  dsimp only at fX fY ⊢
  rw [Bool.eq_iff_iff]
  simp only [beq_iff_eq, decide_eq_true_eq, Prod.mk.injEq]
  unfold cmpV
  by_cases hk : k = k'
  · subst hk
    rw [if_neg (by simp)]
    by_cases h3 : k = 3
    · rw [if_pos h3, compareBytes_zero, fX.1 h3, fY.1 h3]
      constructor
      · intro h; exact ⟨rfl, rfl, (bytes_eq s s').mp (by rw [Lib.toList_data, Lib.toList_data, h])⟩
      · rintro ⟨_, _, rfl⟩; rfl
    · rw [if_neg h3, sg_zero, fX.2 h3, fY.2 h3]
      constructor
      · intro h; exact ⟨rfl, by omega, rfl⟩
      · rintro ⟨_, rfl, _⟩; omega
  · rw [if_pos hk, sg_zero]
    constructor
    · intro h; exact absurd (by omega) hk
    · rintro ⟨h, _, _⟩; exact absurd h hk
set_option maxHeartbeats 1000000 in
theorem same_t (x y : V3) (hx : Sz x) (hy : Sz y) (w : World) : Calls Tryz.prog 42 #[toV x, toV y] w fun e w' => e = .returned (toV (boolT (cmp3 x y == 0))) ∧ Below w.heap.size w w' := by
  rw [cmp3_zero]
  have CX := Lib.hid (fun w => clean_t x hx w)
  have CY := Lib.hid (fun w => clean_t y hy w)
  clear hx hy
  generalize clT x = X at CX ⊢
  generalize clT y = Y at CY ⊢
  obtain ⟨ka, na, sa⟩ := x
  obtain ⟨kb, nb, sb⟩ := y
  change Calls Tryz.prog 42 #[val ka na sa, val kb nb sb] w _
  have I0 : Hid (In3 (ka, na, sa) (kb, nb, sb) w (((w.alloc (.cells #[.int .i64 ka, .int .i64 na, .string sa] 23)).alloc (.cells #[.int .i64 kb, .int .i64 nb, .string sb] 23)).alloc (.cells #[.int .i64 0, .int .i64 0, .string ⟨#[]⟩] 23))) := Lib.hid ⟨(heap_alloc_old _ _ (by simp only [World.size_alloc]; omega)).trans ((heap_alloc_old _ _ (by simp)).trans (heap_alloc_new w _)), (heap_alloc_old _ _ (by simp)).trans (new_at _ _ _ (by simp)), new_at _ _ _ (by simp), by go_grown⟩
  go_enter Tryz.func42, Tryz.ntmps42
  go_wp2_with fail
  refine region_tail (In3 (ka, na, sa) (kb, nb, sb) w) 6 (by kernel_rfl) (by kernel_rfl) I0.out.drew ?_
  simp only [List.take_succ_cons, List.take_zero, List.drop_succ_cons, List.drop_zero]
  refine s_val (toV (ka, na, sa)) (by rfl) (run_load23 (.tmp 2) rfl w.heap.size _ rfl rfl (fun w h => h.1)) ?_
  simp only [Act.put, List.setIfInBounds_toArray, List.set_cons_zero, List.set_cons_succ]
  refine s_call (toV X) 94 #[toV (ka, na, sa)] (by rfl) (fun w => by go_simp) (fun w' h => (CX.out w').mono fun e x hx => ⟨hx.1, h.below hx.2⟩) ?_
  simp only [Act.put, List.setIfInBounds_toArray, List.set_cons_zero, List.set_cons_succ]
  refine s_val (toV (kb, nb, sb)) (by rfl) (run_load23 (.tmp 3) rfl (w.heap.size + 1) _ rfl rfl (fun w h => h.2.1)) ?_
  simp only [Act.put, List.setIfInBounds_toArray, List.set_cons_zero, List.set_cons_succ]
  refine s_call (toV Y) 94 #[toV (kb, nb, sb)] (by rfl) (fun w => by go_simp) (fun w' h => (CY.out w').mono fun e x hx => ⟨hx.1, h.below hx.2⟩) ?_
  simp only [Act.put, List.setIfInBounds_toArray, List.set_cons_zero, List.set_cons_succ]
  refine s_val (.bool (decide (X = Y))) (by rfl) (fun w' _ => op_eq23 X Y rfl rfl rfl w') ?_
  simp only [Act.put, List.setIfInBounds_toArray, List.set_cons_zero, List.set_cons_succ]
  refine s_call (toV (boolT (decide (X = Y)))) 113 #[.bool (decide (X = Y))] (by rfl) (fun w => by go_simp) (fun w' h => (bool_t _ w').mono fun e x hx => ⟨hx.1, h.below hx.2⟩) ?_
  simp only [Act.put, List.setIfInBounds_toArray, List.set_cons_zero, List.set_cons_succ]
  refine s_done ?_
  intro w1 hI
  have I1 := Lib.hid hI
  clear hI
  refine store23 rfl (.tmp 4) (.tmp 10) rfl (w.heap.size + 2) (boolT (decide (X = Y))) rfl rfl _ I1.out.2.2.1 ?_
  intro wz hp
  have HP := Lib.hid hp
  clear hp
  go_wp2
  exact bodyPost_ret (ret23 rfl rfl HP.out.at') rfl ⟨rfl, HP.out.low I1.out.2.2.2 (by omega)⟩
end YtabojeleomfgnaaGreatDoor
end Go.Proofs
