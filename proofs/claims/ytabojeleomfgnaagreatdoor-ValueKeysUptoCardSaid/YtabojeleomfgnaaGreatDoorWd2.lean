/- Length, Lower, Upper, Concat. -/
import Derived.Test.YtabojeleomfgnaaGreatDoorWd1
import Derived.Test.YtabojeleomfgnaaGreatDoorNu1
import Derived.Test.YtabojeleomfgnaaGreatDoorLg4
namespace Go.Proofs
open Go.RowKit
namespace YtabojeleomfgnaaGreatDoor
set_option maxRecDepth 100000
def textT (s : ByteArray) : V3 := clT (3, 0, s)
theorem text_t (s : ByteArray) (hs : s.size ≤ maxLen) (w : World) : Calls Tryz.prog 125 #[.string s] w fun e w' => e = .returned (toV (textT s)) ∧ Below w.heap.size w w' := by
  have CK : Hid (∀ w, Calls Tryz.prog 94 #[.agg #[.int .i64 3, .int .i64 0, .string s]] w fun e w' => e = .returned (toV (textT s)) ∧ Below w.heap.size w w') := Lib.hid (fun w => clean_t (3, 0, s) hs w)
  generalize textT s = R at CK ⊢
  go_enter Tryz.func125, Tryz.ntmps125
  go_wp2_with fail
  refine (CK.out _).mono ?_
  rintro e w1 ⟨rfl, hb1⟩
  have R1 : Hid (w1.heap[w.heap.size]? = some (.cells (cells nullT) 23 (0, 0))) := Lib.hid ((hb1.block _ (by simp)).trans (new_at _ _ _ (by simp)))
  have HL1 := Lib.hid (below_call (w := w) (by go_grown) hb1)
  clear hb1
  go_wp2_with (refine store23 rfl (.tmp 2) (.tmp 5) rfl w.heap.size (R) rfl rfl _ R1.out ?_; intro wz hp; have HP := Lib.hid hp; clear hp)
  exact bodyPost_ret (ret23 rfl rfl HP.out.at') rfl ⟨rfl, HP.out.low HL1.out (Nat.le_refl _)⟩
theorem word_t (s : ByteArray) (hs : s.size ≤ maxLen) (w : World) : Calls Tryz.prog 179 #[.string s] w fun e w' => e = .returned (toV (textT s)) ∧ Below w.heap.size w w' := by
  have CK : Hid (∀ w, Calls Tryz.prog 97 #[.agg #[.int .i64 3, .int .i64 0, .string s]] w fun e w' => e = .returned (toV (textT s)) ∧ Below w.heap.size w w') := Lib.hid (fun w => right_t (3, 0, s) hs w)
  generalize textT s = R at CK ⊢
  go_enter Tryz.func179, Tryz.ntmps179
  go_wp2_with fail
  refine (CK.out _).mono ?_
  rintro e w1 ⟨rfl, hb1⟩
  have R1 : Hid (w1.heap[w.heap.size]? = some (.cells (cells nullT) 23 (0, 0))) := Lib.hid ((hb1.block _ (by simp)).trans (new_at _ _ _ (by simp)))
  have HL1 := Lib.hid (below_call (w := w) (by go_grown) hb1)
  clear hb1
  go_wp2_with (refine store23 rfl (.tmp 2) (.tmp 5) rfl w.heap.size (R) rfl rfl _ R1.out ?_; intro wz hp; have HP := Lib.hid hp; clear hp)
  exact bodyPost_ret (ret23 rfl rfl HP.out.at') rfl ⟨rfl, HP.out.low HL1.out (Nat.le_refl _)⟩
theorem Right.ascii {x : V3} (h : Right x) (h3 : x.1 = 3) : x.2.2.size ≤ 100 ∧ ∀ k (hk : k < x.2.2.size), x.2.2[k].toNat < 128 := by
  have hb := h.bounds
  refine ⟨hb.2.2.2.2, fun k hk => ?_⟩
  unfold Right rightB at h
  rw [h3] at h
  simp only [Bool.and_eq_true] at h
  have ho := h.2.2
  unfold inRangeB at ho
  simp only [show ¬ (3 : Int) = 1 from by decide, show ¬ (3 : Int) = 2 from by decide, show ¬ (3 : Int) = 4 from by decide, if_false] at ho
  unfold allOk at ho
  rw [List.all_eq_true] at ho
  have := ho x.2.2[k] (by simp [ByteArray.getElem_eq_getElem_data])
  simp [okByte] at this
  omega
/-- three arguments' boxes, the result's box -/
def In4 (x y z : V3) (w0 w : World) : Prop :=
  w.heap[w0.heap.size]? = some (.cells (cells x) 23 (0, 0)) ∧ w.heap[w0.heap.size + 1]? = some (.cells (cells y) 23 (0, 0)) ∧ w.heap[w0.heap.size + 2]? = some (.cells (cells z) 23 (0, 0)) ∧ w.heap[w0.heap.size + 3]? = some (.cells (cells nullT) 23 (0, 0)) ∧ Below w0.heap.size w0 w
theorem In4.below {x y z : V3} {w0 w w' : World} (h : In4 x y z w0 w) (hb : Below w.heap.size w w') : In4 x y z w0 w' :=
  ⟨(hb.block _ (lt_of_block h.1)).trans h.1, (hb.block _ (lt_of_block h.2.1)).trans h.2.1, (hb.block _ (lt_of_block h.2.2.1)).trans h.2.2.1, (hb.block _ (lt_of_block h.2.2.2.1)).trans h.2.2.2.1, below_call h.2.2.2.2 hb⟩
theorem In4.made (x y z : V3) (w : World) : In4 x y z w ((((w.alloc (.cells (cells x) 23)).alloc (.cells (cells y) 23)).alloc (.cells (cells z) 23)).alloc (.cells (cells nullT) 23)) := by
  refine ⟨?_, ?_, ?_, new_at _ _ _ (by simp), by go_grown⟩
  · exact (heap_alloc_old _ _ (by simp only [World.size_alloc]; omega)).trans ((heap_alloc_old _ _ (by simp only [World.size_alloc]; omega)).trans ((heap_alloc_old _ _ (by simp)).trans (heap_alloc_new w _)))
  · exact (heap_alloc_old _ _ (by simp only [World.size_alloc]; omega)).trans ((heap_alloc_old _ _ (by simp)).trans (new_at _ _ _ (by simp)))
  · exact (heap_alloc_old _ _ (by simp)).trans (new_at _ _ _ (by simp))
theorem Puts.in4 {x y z X : V3} {w0 w w' : World} (h : Puts w0.heap.size (cells X) 23 w w') (hI : In4 x y z w0 w) : In4 X y z w0 w' :=
  ⟨h.at', (h.keeps.block _ (lt_of_block hI.2.1) (by omega)).trans hI.2.1, (h.keeps.block _ (lt_of_block hI.2.2.1) (by omega)).trans hI.2.2.1, (h.keeps.block _ (lt_of_block hI.2.2.2.1) (by omega)).trans hI.2.2.2.1, h.below hI.2.2.2.2 (Nat.le_refl _)⟩
/-- the two stores behind 'a, b = clean(a), clean(b)', a result's box beside them -/
theorem tail3 {ops : Array Oper} {o p : Oper} {u v u' v' : Operand} {a : Act} {Q : Exit → Act → World → Prop} {w0 w1 : World} {x y x' y' : V3}
    (ho : o.op = .store 23 u v) (hg : o.guard = none) (hd : o.dst = none) (hp : p.op = .store 23 u' v') (hgp : p.guard = none) (hdp : p.dst = none)
    (hx : a.eval u = .pointer (some ⟨w0.heap.size, 0, none⟩)) (hy : a.eval v = toV x') (hx' : a.eval u' = .pointer (some ⟨w0.heap.size + 1, 0, none⟩)) (hy' : a.eval v' = toV y')
    (hI : In3 x y w0 w1) (h : ∀ w2, In3 x' y' w0 w2 → Q .normal a w2) : wpList Tryz.prog ops Q [o, p] a w1 := by
  have put : ∀ v, a.put none v = a := fun _ => rfl
  refine store23 hg u v ho w0.heap.size x' hx hy x hI.1 ?_
  intro x1 hP
  have hB1 := (hP.keeps.block _ (lt_of_block hI.2.1) (by omega)).trans hI.2.1
  have hC1 := (hP.keeps.block _ (lt_of_block hI.2.2.1) (by omega)).trans hI.2.2.1
  have hL1 := hP.below hI.2.2.2 (Nat.le_refl _)
  rw [hd, put]
  refine store23 hgp u' v' hp (w0.heap.size + 1) y' hx' hy' y hB1 ?_
  intro x2 hP2
  rw [hdp, put]
  exact h x2 ⟨(hP2.keeps.block _ (lt_of_block hP.at') (by omega)).trans hP.at', hP2.at', (hP2.keeps.block _ (lt_of_block hC1) (by omega)).trans hC1, hP2.below hL1 (by omega)⟩
def lengthT (X : V3) : V3 := if (X.1 != 3) = true then nullT else numT 2 X.2.2.size
def lowerT (X : V3) : V3 := if (X.1 != 3) = true then nullT else textT (mapT lowB X.2.2)
def upperT (X : V3) : V3 := if (X.1 != 3) = true then nullT else textT (mapT upB X.2.2)
def concatT (X Y : V3) : V3 := if okB X Y 3 3 = true then textT (X.2.2 ++ Y.2.2) else nullT
set_option maxHeartbeats 1000000 in
theorem length_t (x : V3) (hx : Sz x) (w : World) : Calls Tryz.prog 50 #[toV x] w fun e w' => e = .returned (toV (lengthT (clT x))) ∧ Below w.heap.size w w' := by
  have CX := Lib.hid (fun w => clean_t x hx w)
  have RX := Lib.hid (clT_right x)
  clear hx
  generalize clT x = X at *
  obtain ⟨ka, na, sa⟩ := x
  obtain ⟨K, n, s⟩ := X
  change Calls Tryz.prog 50 #[val ka na sa] w _
  change Hid (∀ w, Calls Tryz.prog 94 #[val ka na sa] w fun e w' => e = .returned (toV (K, n, s)) ∧ Below w.heap.size w w') at CX
  cases hk : (K != 3) with
  | true =>
    have HE : Hid (lengthT (K, n, s) = nullT) := Lib.hid (by unfold lengthT; rw [hk]; rfl)
    generalize lengthT (K, n, s) = R at HE ⊢
    go_enter Tryz.func50, Tryz.ntmps50
    go_wp2_with fail
    refine (CX.out _).mono ?_
    rintro e w1 ⟨rfl, hb1⟩
    have B1 : Hid (w1.heap[w.heap.size]? = some (.cells (cells (ka, na, sa)) 23 (0, 0))) := Lib.hid ((hb1.block _ (by simp only [World.size_alloc]; omega)).trans ((heap_alloc_old _ _ (by simp)).trans (heap_alloc_new w _)))
    have R1 : Hid (w1.heap[w.heap.size + 1]? = some (.cells (cells nullT) 23 (0, 0))) := Lib.hid ((hb1.block _ (by simp)).trans (new_at _ _ _ (by simp)))
    have HL1 := Lib.hid (below_call (w := w) (by go_grown) hb1)
    clear hb1
    go_wp2_with (first | (refine store23 rfl (.tmp 1) (.tmp 4) rfl w.heap.size (K, n, s) rfl rfl _ B1.out ?_; intro wz hp; have HP := Lib.hid hp; clear hp; have a0 : wz.cell? ⟨w.heap.size, 0, none⟩ = some (.int .i64 K) := (cell_of_row wz _ 0 _ _ _ HP.out.at').trans rfl; have a1 : wz.cell? ⟨w.heap.size, 1, none⟩ = some (.int .i64 n) := (cell_of_row wz _ 1 _ _ _ HP.out.at').trans rfl; have a2 : wz.cell? ⟨w.heap.size, 2, none⟩ = some (.string s) := (cell_of_row wz _ 2 _ _ _ HP.out.at').trans rfl; have R2 : Hid (wz.heap[w.heap.size + 1]? = some (.cells (cells nullT) 23 (0, 0))) := Lib.hid ((HP.out.keeps.block _ (lt_of_block R1.out) (by omega)).trans R1.out); have HL2 := Lib.hid (HP.out.low HL1.out (Nat.le_refl _))) | (refine store23 rfl (.tmp 2) (.tmp 8) rfl (w.heap.size + 1) nullT rfl rfl _ R2.out ?_; intro wy hp; have HQ := Lib.hid hp; clear hp))
    exact bodyPost_ret (ret23 rfl rfl HQ.out.at') rfl ⟨by rw [HE.out], HQ.out.low HL2.out (by omega)⟩
  | false =>
    have HE : Hid (lengthT (K, n, s) = numT 2 s.size) := Lib.hid (by unfold lengthT; rw [hk]; rfl)
    generalize lengthT (K, n, s) = R at HE ⊢
    have hk3 : K = 3 := by simpa using hk
    have RA := Lib.hid (RX.out.ascii hk3)
    clear hk
    subst hk3
    go_enter Tryz.func50, Tryz.ntmps50
    go_wp2_with fail
    refine (CX.out _).mono ?_
    rintro e w1 ⟨rfl, hb1⟩
    have B1 : Hid (w1.heap[w.heap.size]? = some (.cells (cells (ka, na, sa)) 23 (0, 0))) := Lib.hid ((hb1.block _ (by simp only [World.size_alloc]; omega)).trans ((heap_alloc_old _ _ (by simp)).trans (heap_alloc_new w _)))
    have R1 : Hid (w1.heap[w.heap.size + 1]? = some (.cells (cells nullT) 23 (0, 0))) := Lib.hid ((hb1.block _ (by simp)).trans (new_at _ _ _ (by simp)))
    have HL1 := Lib.hid (below_call (w := w) (by go_grown) hb1)
    clear hb1
    go_wp2_with (first | (refine store23 rfl (.tmp 1) (.tmp 4) rfl w.heap.size (3, n, s) rfl rfl _ B1.out ?_; intro wz hp; have HP := Lib.hid hp; clear hp; have a0 : wz.cell? ⟨w.heap.size, 0, none⟩ = some (.int .i64 3) := (cell_of_row wz _ 0 _ _ _ HP.out.at').trans rfl; have a1 : wz.cell? ⟨w.heap.size, 1, none⟩ = some (.int .i64 n) := (cell_of_row wz _ 1 _ _ _ HP.out.at').trans rfl; have a2 : wz.cell? ⟨w.heap.size, 2, none⟩ = some (.string s) := (cell_of_row wz _ 2 _ _ _ HP.out.at').trans rfl; have R2 : Hid (wz.heap[w.heap.size + 1]? = some (.cells (cells nullT) 23 (0, 0))) := Lib.hid ((HP.out.keeps.block _ (lt_of_block R1.out) (by omega)).trans R1.out); have HL2 := Lib.hid (HP.out.low HL1.out (Nat.le_refl _))) | (refine store23 rfl (.tmp 2) (.tmp 8) rfl (w.heap.size + 1) nullT rfl rfl _ R2.out ?_; intro wy hp; have HQ := Lib.hid hp; clear hp))
    go_wp2_with fail
    refine (number_t _ _ _).mono ?_
    rintro e w3 ⟨rfl, hb3⟩
    have R3 : Hid (w3.heap[w.heap.size + 1]? = some (.cells (cells nullT) 23 (0, 0))) := Lib.hid ((hb3.block _ (lt_of_block R2.out)).trans R2.out)
    have HL3 := Lib.hid (below_call HL2.out hb3)
    clear hb3 a0 a1 a2
    go_wp2_with (refine store23 rfl (.tmp 2) (.tmp 12) rfl (w.heap.size + 1) (numT 2 s.size) rfl rfl _ R3.out ?_; intro wy hp; have HQ := Lib.hid hp; clear hp)
    exact bodyPost_ret (ret23 rfl rfl HQ.out.at') rfl ⟨by rw [HE.out], HQ.out.low HL3.out (by omega)⟩
set_option maxHeartbeats 1000000 in
theorem lower_op_t (x : V3) (hx : Sz x) (w : World) : Calls Tryz.prog 51 #[toV x] w fun e w' => e = .returned (toV (lowerT (clT x))) ∧ Below w.heap.size w w' := by
  have CX := Lib.hid (fun w => clean_t x hx w)
  have RX := Lib.hid (clT_right x)
  clear hx
  generalize clT x = X at *
  obtain ⟨ka, na, sa⟩ := x
  obtain ⟨K, n, s⟩ := X
  change Calls Tryz.prog 51 #[val ka na sa] w _
  change Hid (∀ w, Calls Tryz.prog 94 #[val ka na sa] w fun e w' => e = .returned (toV (K, n, s)) ∧ Below w.heap.size w w') at CX
  cases hk : (K != 3) with
  | true =>
    have HE : Hid (lowerT (K, n, s) = nullT) := Lib.hid (by unfold lowerT; rw [hk]; rfl)
    generalize lowerT (K, n, s) = R at HE ⊢
    go_enter Tryz.func51, Tryz.ntmps51
    go_wp2_with fail
    refine (CX.out _).mono ?_
    rintro e w1 ⟨rfl, hb1⟩
    have B1 : Hid (w1.heap[w.heap.size]? = some (.cells (cells (ka, na, sa)) 23 (0, 0))) := Lib.hid ((hb1.block _ (by simp only [World.size_alloc]; omega)).trans ((heap_alloc_old _ _ (by simp)).trans (heap_alloc_new w _)))
    have R1 : Hid (w1.heap[w.heap.size + 1]? = some (.cells (cells nullT) 23 (0, 0))) := Lib.hid ((hb1.block _ (by simp)).trans (new_at _ _ _ (by simp)))
    have HL1 := Lib.hid (below_call (w := w) (by go_grown) hb1)
    clear hb1
    go_wp2_with (first | (refine store23 rfl (.tmp 1) (.tmp 4) rfl w.heap.size (K, n, s) rfl rfl _ B1.out ?_; intro wz hp; have HP := Lib.hid hp; clear hp; have a0 : wz.cell? ⟨w.heap.size, 0, none⟩ = some (.int .i64 K) := (cell_of_row wz _ 0 _ _ _ HP.out.at').trans rfl; have a1 : wz.cell? ⟨w.heap.size, 1, none⟩ = some (.int .i64 n) := (cell_of_row wz _ 1 _ _ _ HP.out.at').trans rfl; have a2 : wz.cell? ⟨w.heap.size, 2, none⟩ = some (.string s) := (cell_of_row wz _ 2 _ _ _ HP.out.at').trans rfl; have R2 : Hid (wz.heap[w.heap.size + 1]? = some (.cells (cells nullT) 23 (0, 0))) := Lib.hid ((HP.out.keeps.block _ (lt_of_block R1.out) (by omega)).trans R1.out); have HL2 := Lib.hid (HP.out.low HL1.out (Nat.le_refl _))) | (refine store23 rfl (.tmp 2) (.tmp 8) rfl (w.heap.size + 1) nullT rfl rfl _ R2.out ?_; intro wy hp; have HQ := Lib.hid hp; clear hp))
    exact bodyPost_ret (ret23 rfl rfl HQ.out.at') rfl ⟨by rw [HE.out], HQ.out.low HL2.out (by omega)⟩
  | false =>
    have HE : Hid (lowerT (K, n, s) = textT (mapT lowB s)) := Lib.hid (by unfold lowerT; rw [hk]; rfl)
    generalize lowerT (K, n, s) = R at HE ⊢
    have hk3 : K = 3 := by simpa using hk
    have RA := Lib.hid (RX.out.ascii hk3)
    clear hk
    subst hk3
    go_enter Tryz.func51, Tryz.ntmps51
    go_wp2_with fail
    refine (CX.out _).mono ?_
    rintro e w1 ⟨rfl, hb1⟩
    have B1 : Hid (w1.heap[w.heap.size]? = some (.cells (cells (ka, na, sa)) 23 (0, 0))) := Lib.hid ((hb1.block _ (by simp only [World.size_alloc]; omega)).trans ((heap_alloc_old _ _ (by simp)).trans (heap_alloc_new w _)))
    have R1 : Hid (w1.heap[w.heap.size + 1]? = some (.cells (cells nullT) 23 (0, 0))) := Lib.hid ((hb1.block _ (by simp)).trans (new_at _ _ _ (by simp)))
    have HL1 := Lib.hid (below_call (w := w) (by go_grown) hb1)
    clear hb1
    go_wp2_with (first | (refine store23 rfl (.tmp 1) (.tmp 4) rfl w.heap.size (3, n, s) rfl rfl _ B1.out ?_; intro wz hp; have HP := Lib.hid hp; clear hp; have a0 : wz.cell? ⟨w.heap.size, 0, none⟩ = some (.int .i64 3) := (cell_of_row wz _ 0 _ _ _ HP.out.at').trans rfl; have a1 : wz.cell? ⟨w.heap.size, 1, none⟩ = some (.int .i64 n) := (cell_of_row wz _ 1 _ _ _ HP.out.at').trans rfl; have a2 : wz.cell? ⟨w.heap.size, 2, none⟩ = some (.string s) := (cell_of_row wz _ 2 _ _ _ HP.out.at').trans rfl; have R2 : Hid (wz.heap[w.heap.size + 1]? = some (.cells (cells nullT) 23 (0, 0))) := Lib.hid ((HP.out.keeps.block _ (lt_of_block R1.out) (by omega)).trans R1.out); have HL2 := Lib.hid (HP.out.low HL1.out (Nat.le_refl _))) | (refine store23 rfl (.tmp 2) (.tmp 8) rfl (w.heap.size + 1) nullT rfl rfl _ R2.out ?_; intro wy hp; have HQ := Lib.hid hp; clear hp))
    go_wp2_with fail
    refine (lower_t s RA.out.1 RA.out.2 _).mono ?_
    rintro e w3 ⟨rfl, hb3⟩
    have R3 : Hid (w3.heap[w.heap.size + 1]? = some (.cells (cells nullT) 23 (0, 0))) := Lib.hid ((hb3.block _ (lt_of_block R2.out)).trans R2.out)
    have HL3 := Lib.hid (below_call HL2.out hb3)
    clear hb3 a0 a1 a2
    go_wp2_with fail
    refine (text_t _ (by rw [map_size]; have := RA.out.1; unfold maxLen; omega) _).mono ?_
    rintro e w4 ⟨rfl, hb4⟩
    have R4 : Hid (w4.heap[w.heap.size + 1]? = some (.cells (cells nullT) 23 (0, 0))) := Lib.hid ((hb4.block _ (lt_of_block R3.out)).trans R3.out)
    have HL4 := Lib.hid (below_call HL3.out hb4)
    clear hb4
    go_wp2_with (refine store23 rfl (.tmp 2) (.tmp 12) rfl (w.heap.size + 1) (textT (mapT lowB s)) rfl rfl _ R4.out ?_; intro wy hp; have HQ := Lib.hid hp; clear hp)
    exact bodyPost_ret (ret23 rfl rfl HQ.out.at') rfl ⟨by rw [HE.out], HQ.out.low HL4.out (by omega)⟩
set_option maxHeartbeats 1000000 in
theorem upper_op_t (x : V3) (hx : Sz x) (w : World) : Calls Tryz.prog 52 #[toV x] w fun e w' => e = .returned (toV (upperT (clT x))) ∧ Below w.heap.size w w' := by
  have CX := Lib.hid (fun w => clean_t x hx w)
  have RX := Lib.hid (clT_right x)
  clear hx
  generalize clT x = X at *
  obtain ⟨ka, na, sa⟩ := x
  obtain ⟨K, n, s⟩ := X
  change Calls Tryz.prog 52 #[val ka na sa] w _
  change Hid (∀ w, Calls Tryz.prog 94 #[val ka na sa] w fun e w' => e = .returned (toV (K, n, s)) ∧ Below w.heap.size w w') at CX
  cases hk : (K != 3) with
  | true =>
    have HE : Hid (upperT (K, n, s) = nullT) := Lib.hid (by unfold upperT; rw [hk]; rfl)
    generalize upperT (K, n, s) = R at HE ⊢
    go_enter Tryz.func52, Tryz.ntmps52
    go_wp2_with fail
    refine (CX.out _).mono ?_
    rintro e w1 ⟨rfl, hb1⟩
    have B1 : Hid (w1.heap[w.heap.size]? = some (.cells (cells (ka, na, sa)) 23 (0, 0))) := Lib.hid ((hb1.block _ (by simp only [World.size_alloc]; omega)).trans ((heap_alloc_old _ _ (by simp)).trans (heap_alloc_new w _)))
    have R1 : Hid (w1.heap[w.heap.size + 1]? = some (.cells (cells nullT) 23 (0, 0))) := Lib.hid ((hb1.block _ (by simp)).trans (new_at _ _ _ (by simp)))
    have HL1 := Lib.hid (below_call (w := w) (by go_grown) hb1)
    clear hb1
    go_wp2_with (first | (refine store23 rfl (.tmp 1) (.tmp 4) rfl w.heap.size (K, n, s) rfl rfl _ B1.out ?_; intro wz hp; have HP := Lib.hid hp; clear hp; have a0 : wz.cell? ⟨w.heap.size, 0, none⟩ = some (.int .i64 K) := (cell_of_row wz _ 0 _ _ _ HP.out.at').trans rfl; have a1 : wz.cell? ⟨w.heap.size, 1, none⟩ = some (.int .i64 n) := (cell_of_row wz _ 1 _ _ _ HP.out.at').trans rfl; have a2 : wz.cell? ⟨w.heap.size, 2, none⟩ = some (.string s) := (cell_of_row wz _ 2 _ _ _ HP.out.at').trans rfl; have R2 : Hid (wz.heap[w.heap.size + 1]? = some (.cells (cells nullT) 23 (0, 0))) := Lib.hid ((HP.out.keeps.block _ (lt_of_block R1.out) (by omega)).trans R1.out); have HL2 := Lib.hid (HP.out.low HL1.out (Nat.le_refl _))) | (refine store23 rfl (.tmp 2) (.tmp 8) rfl (w.heap.size + 1) nullT rfl rfl _ R2.out ?_; intro wy hp; have HQ := Lib.hid hp; clear hp))
    exact bodyPost_ret (ret23 rfl rfl HQ.out.at') rfl ⟨by rw [HE.out], HQ.out.low HL2.out (by omega)⟩
  | false =>
    have HE : Hid (upperT (K, n, s) = textT (mapT upB s)) := Lib.hid (by unfold upperT; rw [hk]; rfl)
    generalize upperT (K, n, s) = R at HE ⊢
    have hk3 : K = 3 := by simpa using hk
    have RA := Lib.hid (RX.out.ascii hk3)
    clear hk
    subst hk3
    go_enter Tryz.func52, Tryz.ntmps52
    go_wp2_with fail
    refine (CX.out _).mono ?_
    rintro e w1 ⟨rfl, hb1⟩
    have B1 : Hid (w1.heap[w.heap.size]? = some (.cells (cells (ka, na, sa)) 23 (0, 0))) := Lib.hid ((hb1.block _ (by simp only [World.size_alloc]; omega)).trans ((heap_alloc_old _ _ (by simp)).trans (heap_alloc_new w _)))
    have R1 : Hid (w1.heap[w.heap.size + 1]? = some (.cells (cells nullT) 23 (0, 0))) := Lib.hid ((hb1.block _ (by simp)).trans (new_at _ _ _ (by simp)))
    have HL1 := Lib.hid (below_call (w := w) (by go_grown) hb1)
    clear hb1
    go_wp2_with (first | (refine store23 rfl (.tmp 1) (.tmp 4) rfl w.heap.size (3, n, s) rfl rfl _ B1.out ?_; intro wz hp; have HP := Lib.hid hp; clear hp; have a0 : wz.cell? ⟨w.heap.size, 0, none⟩ = some (.int .i64 3) := (cell_of_row wz _ 0 _ _ _ HP.out.at').trans rfl; have a1 : wz.cell? ⟨w.heap.size, 1, none⟩ = some (.int .i64 n) := (cell_of_row wz _ 1 _ _ _ HP.out.at').trans rfl; have a2 : wz.cell? ⟨w.heap.size, 2, none⟩ = some (.string s) := (cell_of_row wz _ 2 _ _ _ HP.out.at').trans rfl; have R2 : Hid (wz.heap[w.heap.size + 1]? = some (.cells (cells nullT) 23 (0, 0))) := Lib.hid ((HP.out.keeps.block _ (lt_of_block R1.out) (by omega)).trans R1.out); have HL2 := Lib.hid (HP.out.low HL1.out (Nat.le_refl _))) | (refine store23 rfl (.tmp 2) (.tmp 8) rfl (w.heap.size + 1) nullT rfl rfl _ R2.out ?_; intro wy hp; have HQ := Lib.hid hp; clear hp))
    go_wp2_with fail
    refine (upper_t s RA.out.1 RA.out.2 _).mono ?_
    rintro e w3 ⟨rfl, hb3⟩
    have R3 : Hid (w3.heap[w.heap.size + 1]? = some (.cells (cells nullT) 23 (0, 0))) := Lib.hid ((hb3.block _ (lt_of_block R2.out)).trans R2.out)
    have HL3 := Lib.hid (below_call HL2.out hb3)
    clear hb3 a0 a1 a2
    go_wp2_with fail
    refine (text_t _ (by rw [map_size]; have := RA.out.1; unfold maxLen; omega) _).mono ?_
    rintro e w4 ⟨rfl, hb4⟩
    have R4 : Hid (w4.heap[w.heap.size + 1]? = some (.cells (cells nullT) 23 (0, 0))) := Lib.hid ((hb4.block _ (lt_of_block R3.out)).trans R3.out)
    have HL4 := Lib.hid (below_call HL3.out hb4)
    clear hb4
    go_wp2_with (refine store23 rfl (.tmp 2) (.tmp 12) rfl (w.heap.size + 1) (textT (mapT upB s)) rfl rfl _ R4.out ?_; intro wy hp; have HQ := Lib.hid hp; clear hp)
    exact bodyPost_ret (ret23 rfl rfl HQ.out.at') rfl ⟨by rw [HE.out], HQ.out.low HL4.out (by omega)⟩
set_option maxHeartbeats 2000000 in
theorem concat_t (x y : V3) (hx : Sz x) (hy : Sz y) (w : World) : Calls Tryz.prog 49 #[toV x, toV y] w fun e w' => e = .returned (toV (concatT (clT x) (clT y))) ∧ Below w.heap.size w w' := by
  have CX := Lib.hid (fun w => clean_t x hx w)
  have CY := Lib.hid (fun w => clean_t y hy w)
  have RX := Lib.hid (clT_right x).bounds
  have RY := Lib.hid (clT_right y).bounds
  clear hx hy
  have HE := Lib.hid (show concatT (clT x) (clT y) = if okB (clT x) (clT y) 3 3 = true then textT ((clT x).2.2 ++ (clT y).2.2) else nullT from rfl)
  unfold okB at HE
  generalize concatT (clT x) (clT y) = R at HE ⊢
  generalize clT x = X at *
  generalize clT y = Y at *
  obtain ⟨K, n, s⟩ := X
  obtain ⟨K', m, t⟩ := Y
  obtain ⟨ka, na, sa⟩ := x
  obtain ⟨kb, nb, sb⟩ := y
  change Calls Tryz.prog 49 #[val ka na sa, val kb nb sb] w _
  have I0 : Hid (In3 (ka, na, sa) (kb, nb, sb) w (((w.alloc (.cells #[.int .i64 ka, .int .i64 na, .string sa] 23)).alloc (.cells #[.int .i64 kb, .int .i64 nb, .string sb] 23)).alloc (.cells #[.int .i64 0, .int .i64 0, .string ⟨#[]⟩] 23))) := Lib.hid ⟨(heap_alloc_old _ _ (by simp only [World.size_alloc]; omega)).trans ((heap_alloc_old _ _ (by simp)).trans (heap_alloc_new w _)), (heap_alloc_old _ _ (by simp)).trans (new_at _ _ _ (by simp)), new_at _ _ _ (by simp), by go_grown⟩
  go_enter Tryz.func49, Tryz.ntmps49
  go_wp2_with fail
  refine region_tail (In3 (ka, na, sa) (kb, nb, sb) w) 4 (by kernel_rfl) (by kernel_rfl) I0.out.drew ?_
  simp only [List.take_succ_cons, List.take_zero, List.drop_succ_cons, List.drop_zero]
  refine s_val (toV (ka, na, sa)) (by rfl) (run_load23 (.tmp 2) rfl w.heap.size _ rfl rfl (fun w h => h.1)) ?_
  simp only [Act.put, List.setIfInBounds_toArray, List.set_cons_zero, List.set_cons_succ]
  refine s_call (toV (K, n, s)) 94 #[toV (ka, na, sa)] (by rfl) (fun w => by go_simp) (fun w' h => (CX.out w').mono fun e x hx => ⟨hx.1, h.below hx.2⟩) ?_
  simp only [Act.put, List.setIfInBounds_toArray, List.set_cons_zero, List.set_cons_succ]
  refine s_val (toV (kb, nb, sb)) (by rfl) (run_load23 (.tmp 3) rfl (w.heap.size + 1) _ rfl rfl (fun w h => h.2.1)) ?_
  simp only [Act.put, List.setIfInBounds_toArray, List.set_cons_zero, List.set_cons_succ]
  refine s_call (toV (K', m, t)) 94 #[toV (kb, nb, sb)] (by rfl) (fun w => by go_simp) (fun w' h => (CY.out w').mono fun e x hx => ⟨hx.1, h.below hx.2⟩) ?_
  simp only [Act.put, List.setIfInBounds_toArray, List.set_cons_zero, List.set_cons_succ]
  refine s_done ?_
  intro w1 hI1
  refine tail3 rfl rfl rfl rfl rfl rfl rfl rfl rfl rfl hI1 ?_
  intro w2 hI2
  clear hI1
  have I2 := Lib.hid hI2
  clear hI2
  have a0 : w2.cell? ⟨w.heap.size, 0, none⟩ = some (.int .i64 K) := (cell_of_row w2 _ 0 _ _ _ I2.out.1).trans rfl
  have a1 : w2.cell? ⟨w.heap.size, 1, none⟩ = some (.int .i64 n) := (cell_of_row w2 _ 1 _ _ _ I2.out.1).trans rfl
  have a2 : w2.cell? ⟨w.heap.size, 2, none⟩ = some (.string s) := (cell_of_row w2 _ 2 _ _ _ I2.out.1).trans rfl
  have d0 : w2.cell? ⟨w.heap.size + 1, 0, none⟩ = some (.int .i64 K') := (cell_of_row w2 _ 0 _ _ _ I2.out.2.1).trans rfl
  have d1 : w2.cell? ⟨w.heap.size + 1, 1, none⟩ = some (.int .i64 m) := (cell_of_row w2 _ 1 _ _ _ I2.out.2.1).trans rfl
  have d2 : w2.cell? ⟨w.heap.size + 1, 2, none⟩ = some (.string t) := (cell_of_row w2 _ 2 _ _ _ I2.out.2.1).trans rfl
  cases hk : (K != 3) with
  | true =>
    have HN : Hid (R = nullT) := Lib.hid (by rw [HE.out, hk]; rfl)
    clear HE
    go_wp2_with (refine store23 rfl (.tmp 4) (.tmp 17) rfl (w.heap.size + 2) (nullT) rfl rfl _ I2.out.2.2.1 ?_; intro wz hp; have HP := Lib.hid hp; clear hp)
    exact bodyPost_ret (ret23 rfl rfl HP.out.at') rfl ⟨by rw [HN.out], HP.out.low I2.out.2.2.2 (by omega)⟩
  | false =>
    cases hl : (K' != 3) with
    | true =>
      have HN : Hid (R = nullT) := Lib.hid (by rw [HE.out, hk, hl]; rfl)
      clear HE
      go_wp2_with (refine store23 rfl (.tmp 4) (.tmp 17) rfl (w.heap.size + 2) (nullT) rfl rfl _ I2.out.2.2.1 ?_; intro wz hp; have HP := Lib.hid hp; clear hp)
      exact bodyPost_ret (ret23 rfl rfl HP.out.at') rfl ⟨by rw [HN.out], HP.out.low I2.out.2.2.2 (by omega)⟩
    | false =>
      have HN : Hid (R = textT (s ++ t)) := Lib.hid (by rw [HE.out, hk, hl]; rfl)
      clear HE
      have z1 : s.size ≤ 100 := RX.out.2.2.2.2
      have z2 : t.size ≤ 100 := RY.out.2.2.2.2
      go_wp2_with fail
      refine (text_t (s ++ t) (by have h1 := RX.out.2.2.2.2; have h2 := RY.out.2.2.2.2; simp only [ByteArray.size_append]; unfold maxLen; omega) _).mono ?_
      rintro e w3 ⟨rfl, hb3⟩
      have I3 := Lib.hid (I2.out.below hb3)
      clear hb3
      go_wp2_with (refine store23 rfl (.tmp 4) (.tmp 23) rfl (w.heap.size + 2) (textT (s ++ t)) rfl rfl _ I3.out.2.2.1 ?_; intro wz hp; have HP := Lib.hid hp; clear hp)
      exact bodyPost_ret (ret23 rfl rfl HP.out.at') rfl ⟨by rw [HN.out], HP.out.low I3.out.2.2.2 (by omega)⟩
end YtabojeleomfgnaaGreatDoor
end Go.Proofs
