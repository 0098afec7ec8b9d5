/- Truth values: the small functions of the program and of the reference. -/
import Derived.Test.YtabojeleomfgnaaGreatDoorT2
namespace Go.Proofs
open Go.RowKit
namespace YtabojeleomfgnaaGreatDoor
set_option maxRecDepth 100000
theorem bool_t (b : Bool) (w : World) : Calls Tryz.prog 113 #[.bool b] w fun e w' => e = .returned (toV (boolT b)) ∧ Below w.heap.size w w' := by
  cases b with
  | true =>
    go_enter Tryz.func113, Tryz.ntmps113
    go_wp2
    exact bodyPost_ret (v := val 1 1 ByteArray.empty) (by simp [results, Tryz.results113, go_sem]; try rfl) rfl ⟨rfl, by go_grown⟩
  | false =>
    go_enter Tryz.func113, Tryz.ntmps113
    go_wp2
    exact bodyPost_ret (v := val 1 0 ByteArray.empty) (by simp [results, Tryz.results113, go_sem]; try rfl) rfl ⟨rfl, by go_grown⟩
theorem truth_t (b : Bool) (w : World) : Calls Tryz.prog 116 #[.bool b] w fun e w' => e = .returned (toV (boolT b)) ∧ Below w.heap.size w w' := by
  cases b with
  | true =>
    go_enter Tryz.func116, Tryz.ntmps116
    go_wp2
    exact bodyPost_ret (v := val 1 1 ByteArray.empty) (by simp [results, Tryz.results116, go_sem]; try rfl) rfl ⟨rfl, by go_grown⟩
  | false =>
    go_enter Tryz.func116, Tryz.ntmps116
    go_wp2
    exact bodyPost_ret (v := val 1 0 ByteArray.empty) (by simp [results, Tryz.results116, go_sem]; try rfl) rfl ⟨rfl, by go_grown⟩
/-- third: 0 false, 1 null, 2 true -/
def third (x : V3) : Int := if (clT x).1 = 1 then 2 * (clT x).2.1 else 1
def thirdT (t : Int) : V3 := if t = 1 then nullT else boolT (t == 2)
theorem fromThird_t (t : Int) (w : World) : Calls Tryz.prog 114 #[.int .i64 t] w fun e w' => e = .returned (toV (thirdT t)) ∧ Below w.heap.size w w' := by
  cases h : (t == 1) with
  | true =>
    have HT := Lib.hid (show thirdT t = nullT from by unfold thirdT; rw [if_pos (by simpa using h)])
    go_enter Tryz.func114, Tryz.ntmps114
    go_wp2
    exact bodyPost_ret (v := val 0 0 ByteArray.empty) (by simp [results, Tryz.results114, go_sem]; try rfl) rfl ⟨by rw [HT.out]; rfl, by go_grown⟩
  | false =>
    have HT := Lib.hid (show thirdT t = boolT (t == 2) from by unfold thirdT; rw [if_neg (by simpa using h)])
    go_enter Tryz.func114, Tryz.ntmps114
    go_wp2_with fail
    refine (truth_t _ _).mono ?_
    rintro e w1 ⟨rfl, hb1⟩
    have HB : Hid (w1.heap[w.heap.size]? = some (.cells (cells nullT) 23 (0, 0))) := Lib.hid ((hb1.block _ (by simp)).trans (heap_alloc_new w _))
    have HL := Lib.hid (below_call (w := w) (by go_grown) hb1)
    clear hb1
    go_wp2_with (refine store23 rfl (.tmp 2) (.tmp 8) rfl w.heap.size (boolT (t == 2)) rfl rfl _ HB.out ?_; intro wz hp; have HP := Lib.hid hp; clear hp)
    exact bodyPost_ret (ret23 rfl rfl HP.out.at') rfl ⟨by rw [HT.out], HP.out.low HL.out (Nat.le_refl _)⟩

theorem third_t (x : V3) (hs : Sz x) (w : World) : Calls Tryz.prog 115 #[toV x] w fun e w' => e = .returned (.int .i64 (third x)) ∧ Below w.heap.size w w' := by
  have HS := Lib.hid hs
  have HR := (clT_right x).bounds
  have HC : Hid (third x = if (clT x).1 = 1 then 2 * (clT x).2.1 else 1) := Lib.hid rfl
  have HX : Hid (∀ w, Calls Tryz.prog 97 #[toV x] w fun e w' => e = .returned (toV (clT x)) ∧ Below w.heap.size w w') := Lib.hid (right_t x hs)
  clear hs
  generalize clT x = y at HC HX HR
  obtain ⟨k, n, s⟩ := x
  obtain ⟨K, N, S⟩ := y
  change Calls Tryz.prog 115 #[val k n s] w _
  dsimp only at HR HC
  obtain ⟨r1, r2, r3, r4, _⟩ := HR
  cases h : (K != 1) with
  | true =>
    have HK := Lib.hid (show ¬ K = 1 from by simpa using h)
    go_enter Tryz.func115, Tryz.ntmps115
    go_wp2_with fail
    refine (HX.out _).mono ?_
    rintro e w1 ⟨rfl, hb1⟩
    have HB : Hid (w1.heap[w.heap.size]? = some (.cells (cells (k, n, s)) 23 (0, 0))) := Lib.hid ((hb1.block _ (by simp)).trans (heap_alloc_new w _))
    have HL := Lib.hid (below_call (w := w) (by go_grown) hb1)
    clear hb1
    go_wp2_with (refine store23 rfl (.tmp 1) (.tmp 4) rfl w.heap.size (K, N, S) rfl rfl _ HB.out ?_; intro w2 hp; have HP := Lib.hid hp; clear hp; have c0 : w2.cell? ⟨w.heap.size, 0, none⟩ = some (.int .i64 K) := (cell_of_row w2 _ 0 _ _ _ HP.out.at').trans rfl; have c1 : w2.cell? ⟨w.heap.size, 1, none⟩ = some (.int .i64 N) := (cell_of_row w2 _ 1 _ _ _ HP.out.at').trans rfl)
    go_ret
    exact ⟨ret_int (by rw [HC.out, if_neg HK.out]), HP.out.low HL.out (Nat.le_refl _)⟩
  | false =>
    have HK := Lib.hid (show K = 1 from by simpa using h)
    go_enter Tryz.func115, Tryz.ntmps115
    go_wp2_with fail
    refine (HX.out _).mono ?_
    rintro e w1 ⟨rfl, hb1⟩
    have HB : Hid (w1.heap[w.heap.size]? = some (.cells (cells (k, n, s)) 23 (0, 0))) := Lib.hid ((hb1.block _ (by simp)).trans (heap_alloc_new w _))
    have HL := Lib.hid (below_call (w := w) (by go_grown) hb1)
    clear hb1
    go_wp2_with (refine store23 rfl (.tmp 1) (.tmp 4) rfl w.heap.size (K, N, S) rfl rfl _ HB.out ?_; intro w2 hp; have HP := Lib.hid hp; clear hp; have c0 : w2.cell? ⟨w.heap.size, 0, none⟩ = some (.int .i64 K) := (cell_of_row w2 _ 0 _ _ _ HP.out.at').trans rfl; have c1 : w2.cell? ⟨w.heap.size, 1, none⟩ = some (.int .i64 N) := (cell_of_row w2 _ 1 _ _ _ HP.out.at').trans rfl)
    go_ret
    exact ⟨ret_int (by rw [HC.out, if_pos HK.out]), HP.out.low HL.out (Nat.le_refl _)⟩
theorem third_cases (x : V3) : third x = 1 ∨ (third x = 0 ∧ x = boolT false) ∨ (third x = 2 ∧ x = boolT true) := by
  unfold third
  by_cases h : rightB x.1 x.2.1 x.2.2 = true
  · have e : clT x = x := clT_of_right h
    rw [e]
    by_cases h1 : x.1 = 1
    · rw [if_pos h1]
      obtain ⟨k, n, s⟩ := x
      simp only at h h1
      subst h1
      unfold rightB at h
      simp only [Bool.and_eq_true, decide_eq_true_eq] at h
      have h3 : s = ByteArray.empty := by
        have h2 := h.1
        unfold formedB at h2
        simp at h2
        exact (bytes_eq s ByteArray.empty).mp (by rw [h2]; simp [ByteArray.toList_eq])
      have h2 : n = 0 ∨ n = 1 := by
        have := h.2.2
        unfold inRangeB at this
        simpa using this
      subst h3
      rcases h2 with rfl | rfl
      · exact .inr (.inl ⟨rfl, rfl⟩)
      · exact .inr (.inr ⟨rfl, rfl⟩)
    · rw [if_neg h1]; exact .inl rfl
  · have e : clT x = nullT := by unfold clT; rw [if_neg h]
    rw [e]; exact .inl rfl
theorem boolT_right (b : Bool) : Right (boolT b) := by
  have h : ByteArray.empty.toList = [] := by simp [ByteArray.toList_eq]
  cases b <;> (unfold Right boolT rightB formedB inRangeB; simp [h])
theorem third_boolT (b : Bool) : third (boolT b) = if b then 2 else 0 := by
  unfold third
  rw [clT_of_right (boolT_right b)]
  cases b <;> rfl
theorem eq_true (x : V3) : decide (x = boolT true) = (third x == 2) := by
  rcases third_cases x with h | ⟨h, e⟩ | ⟨h, e⟩
  · have : x ≠ boolT true := fun e => by rw [e, third_boolT] at h; simp at h
    rw [h]; simp [this]
  · rw [h]; subst e; rfl
  · rw [h]; subst e; rfl
theorem eq_false (x : V3) : decide (x = boolT false) = (third x == 0) := by
  rcases third_cases x with h | ⟨h, e⟩ | ⟨h, e⟩
  · have : x ≠ boolT false := fun e => by rw [e, third_boolT] at h; simp at h
    rw [h]; simp [this]
  · rw [h]; subst e; rfl
  · rw [h]; subst e; rfl
theorem isTrue_t (x : V3) (w : World) : Calls Tryz.prog 111 #[toV x] w fun e w' => e = .returned (.bool (third x == 2)) ∧ Below w.heap.size w w' := by
  have HC := Lib.hid (eq_true x)
  obtain ⟨k, n, s⟩ := x
  change Calls Tryz.prog 111 #[val k n s] w _
  generalize (third (k, n, s) == 2) = R at HC ⊢
  go_enter Tryz.func111, Tryz.ntmps111
  go_wp2_with fail
  refine region_all (V1 w.heap.size #[.int .i64 k, .int .i64 n, .string s] w) (by kernel_rfl) (by kernel_rfl) ⟨heap_alloc_new w _, by go_grown⟩ ?_
  refine s_val (toV (k, n, s)) (by rfl) (run_load23 (.tmp 1) rfl w.heap.size _ rfl rfl (fun w h => h.1)) ?_
  simp only [Act.put, List.setIfInBounds_toArray, List.set_cons_zero, List.set_cons_succ]
  refine s_call (toV (boolT true)) 113 #[.bool true] (by rfl) (fun w => by go_simp) (fun w' h => (bool_t true w').mono fun e x hx => ⟨hx.1, h.below hx.2⟩) ?_
  simp only [Act.put, List.setIfInBounds_toArray, List.set_cons_zero, List.set_cons_succ]
  refine s_val (.bool R) (by rfl) (fun w' _ => (op_eq23 (k, n, s) (boolT true) rfl rfl rfl w').trans (by rw [HC.out])) ?_
  simp only [Act.put, List.setIfInBounds_toArray, List.set_cons_zero, List.set_cons_succ]
  refine s_val (.bool R) (by rfl) (fun w' h => by rfl) ?_
  simp only [Act.put, List.setIfInBounds_toArray, List.set_cons_zero, List.set_cons_succ]
  refine s_done ?_
  intro w1 h1
  have H2 := Lib.hid h1.2
  clear h1
  go_wp2
  go_ret
  exact ⟨rfl, H2.out⟩
theorem isFalse_t (x : V3) (w : World) : Calls Tryz.prog 112 #[toV x] w fun e w' => e = .returned (.bool (third x == 0)) ∧ Below w.heap.size w w' := by
  have HC := Lib.hid (eq_false x)
  obtain ⟨k, n, s⟩ := x
  change Calls Tryz.prog 112 #[val k n s] w _
  generalize (third (k, n, s) == 0) = R at HC ⊢
  go_enter Tryz.func112, Tryz.ntmps112
  go_wp2_with fail
  refine region_all (V1 w.heap.size #[.int .i64 k, .int .i64 n, .string s] w) (by kernel_rfl) (by kernel_rfl) ⟨heap_alloc_new w _, by go_grown⟩ ?_
  refine s_val (toV (k, n, s)) (by rfl) (run_load23 (.tmp 1) rfl w.heap.size _ rfl rfl (fun w h => h.1)) ?_
  simp only [Act.put, List.setIfInBounds_toArray, List.set_cons_zero, List.set_cons_succ]
  refine s_call (toV (boolT false)) 113 #[.bool false] (by rfl) (fun w => by go_simp) (fun w' h => (bool_t false w').mono fun e x hx => ⟨hx.1, h.below hx.2⟩) ?_
  simp only [Act.put, List.setIfInBounds_toArray, List.set_cons_zero, List.set_cons_succ]
  refine s_val (.bool R) (by rfl) (fun w' _ => (op_eq23 (k, n, s) (boolT false) rfl rfl rfl w').trans (by rw [HC.out])) ?_
  simp only [Act.put, List.setIfInBounds_toArray, List.set_cons_zero, List.set_cons_succ]
  refine s_val (.bool R) (by rfl) (fun w' h => by rfl) ?_
  simp only [Act.put, List.setIfInBounds_toArray, List.set_cons_zero, List.set_cons_succ]
  refine s_done ?_
  intro w1 h1
  have H2 := Lib.hid h1.2
  clear h1
  go_wp2
  go_ret
  exact ⟨rfl, H2.out⟩
end YtabojeleomfgnaaGreatDoor
end Go.Proofs
