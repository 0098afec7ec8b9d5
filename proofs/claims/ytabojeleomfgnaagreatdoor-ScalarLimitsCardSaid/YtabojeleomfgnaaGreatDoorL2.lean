/- The value of add(:a,5): the sum. -/
import Derived.Test.YtabojeleomfgnaaGreatDoorN1
namespace Go.Proofs
open Go.RowKit
namespace YtabojeleomfgnaaGreatDoor
set_option maxRecDepth 100000
abbrev V10 : Value := val 2 10 ⟨#[]⟩
theorem r210 : cl 2 10 ⟨#[]⟩ = V10 := cl_val _ _ _ (by simp [rightB, formedB, inRangeB, inB, ByteArray.toList_eq]; exact Nat.zero_le _)
theorem number10 (w : World) : Calls Tryz.prog 123 #[.int .i64 2, .int .i64 10] w fun e w' => e = .returned V10 ∧ Below w.heap.size w w' := by
  have h := number_any 2 10 w
  rw [r210] at h
  exact h
theorem numbers55 (w : World) : Calls Tryz.prog 122 #[V5, .int .i64 2, V5, .int .i64 2] w fun e w' => e = .returned (.tuple #[.int .i64 5, .int .i64 5, .bool true]) ∧ Below w.heap.size w w' :=
  numbers_y 2 5 2 5 2 5 2 5 2 2 ⟨#[]⟩ ⟨#[]⟩ ⟨#[]⟩ ⟨#[]⟩ w (by decide) (by decide) clean5 clean5
set_option maxHeartbeats 1000000 in
theorem add55 (w : World) : Calls Tryz.prog 43 #[V5, V5] w fun e w' => e = .returned V10 ∧ Below w.heap.size w w' := by
  go_enter Tryz.func43, Tryz.ntmps43
  go_wp2_with fail
  refine (numbers55 _).mono ?_
  rintro e w1 ⟨rfl, hb1⟩
  obtain ⟨hc1, hf1⟩ := bcell hb1
  have hz1_0 : w.heap.size < w1.heap.size := lt_after hb1 (by (try simp only [World.size_alloc]); repeat (first | (with_reducible assumption) | exact Nat.lt_add_one _ | apply Nat.lt_add_one_of_lt))
  have hz1_1 : w.heap.size + 1 < w1.heap.size := lt_after hb1 (by (try simp only [World.size_alloc]); repeat (first | (with_reducible assumption) | exact Nat.lt_add_one _ | apply Nat.lt_add_one_of_lt))
  have hz1_2 : w.heap.size + 2 < w1.heap.size := lt_after hb1 (by (try simp only [World.size_alloc]); repeat (first | (with_reducible assumption) | exact Nat.lt_add_one _ | apply Nat.lt_add_one_of_lt))
  go_wp2_with fail
  refine (number10 _).mono ?_
  rintro e w2 ⟨rfl, hb2⟩
  obtain ⟨hc2, hf2⟩ := bcell hb2
  have hz2_0 : w.heap.size < w2.heap.size := lt_after hb2 (by (try simp only [World.size_alloc, World.size_setCell, World.size_drew]); repeat (first | (with_reducible assumption) | exact Nat.lt_add_one _ | apply Nat.lt_add_one_of_lt))
  have hz2_1 : w.heap.size + 1 < w2.heap.size := lt_after hb2 (by (try simp only [World.size_alloc, World.size_setCell, World.size_drew]); repeat (first | (with_reducible assumption) | exact Nat.lt_add_one _ | apply Nat.lt_add_one_of_lt))
  have hz2_2 : w.heap.size + 2 < w2.heap.size := lt_after hb2 (by (try simp only [World.size_alloc, World.size_setCell, World.size_drew]); repeat (first | (with_reducible assumption) | exact Nat.lt_add_one _ | apply Nat.lt_add_one_of_lt))
  go_wp2
  exact bodyPost_ret (v := V10) (by simp [results, Tryz.results43, go_sem, hc1, hc2, hz1_2]; try rfl) rfl ⟨rfl, by go_grown; refine below_call ?_ hb2; go_grown; refine below_call ?_ hb1; go_grown⟩
set_option maxHeartbeats 1000000 in
theorem operateTwo_add (w : World) : Calls Tryz.prog 259 #[.int .i64 12, V5, V5] w fun e w' => e = .returned V10 ∧ Below w.heap.size w w' := by
  go_enter Tryz.func259, Tryz.ntmps259
  go_wp2_with fail
  refine (add55 _).mono ?_
  rintro e w1 ⟨rfl, hb1⟩
  obtain ⟨hc1, hf1⟩ := bcell hb1
  have hz1_0 : w.heap.size < w1.heap.size := lt_after hb1 (by (try simp only [World.size_alloc]); repeat (first | (with_reducible assumption) | exact Nat.lt_add_one _ | apply Nat.lt_add_one_of_lt))
  have hz1_1 : w.heap.size + 1 < w1.heap.size := lt_after hb1 (by (try simp only [World.size_alloc]); repeat (first | (with_reducible assumption) | exact Nat.lt_add_one _ | apply Nat.lt_add_one_of_lt))
  have hz1_2 : w.heap.size + 2 < w1.heap.size := lt_after hb1 (by (try simp only [World.size_alloc]); repeat (first | (with_reducible assumption) | exact Nat.lt_add_one _ | apply Nat.lt_add_one_of_lt))
  go_wp2
  exact bodyPost_ret (v := V10) (by simp [results, Tryz.results259, go_sem, hc1]; try rfl) rfl ⟨rfl, by go_grown; refine below_call ?_ hb1; go_grown⟩
/-- two fives at block ga -/
structure Fives (ga : Nat) (w : World) : Prop where
  c0 : w.cell? ⟨ga, 0, none⟩ = some (.int .i64 2)
  c1 : w.cell? ⟨ga, 1, none⟩ = some (.int .i64 5)
  c2 : w.cell? ⟨ga, 2, none⟩ = some (.string ⟨#[]⟩)
  c3 : w.cell? ⟨ga, 3, none⟩ = some (.int .i64 2)
  c4 : w.cell? ⟨ga, 4, none⟩ = some (.int .i64 5)
  c5 : w.cell? ⟨ga, 5, none⟩ = some (.string ⟨#[]⟩)
  lt : ga < w.heap.size
theorem Fives.below {ga : Nat} {w w' : World} (h : Fives ga w) (hb : Below w.heap.size w w') : Fives ga w' :=
  ⟨(hb.cell (p := ⟨ga, 0, none⟩) h.lt).trans h.c0, (hb.cell (p := ⟨ga, 1, none⟩) h.lt).trans h.c1, (hb.cell (p := ⟨ga, 2, none⟩) h.lt).trans h.c2, (hb.cell (p := ⟨ga, 3, none⟩) h.lt).trans h.c3, (hb.cell (p := ⟨ga, 4, none⟩) h.lt).trans h.c4, (hb.cell (p := ⟨ga, 5, none⟩) h.lt).trans h.c5, Nat.lt_of_lt_of_le h.lt hb.size⟩
structure SF (ga : Nat) (w0 w : World) : Prop where
  fives : Fives ga w
  res : ∃ X : Array Value, X.size = 3 ∧ w.heap[w0.heap.size]? = some (.cells X 23 (0, 0))
  low : Below w0.heap.size w0 w
theorem SF.below {ga : Nat} {w0 w w' : World} (h : SF ga w0 w) (hb : Below w.heap.size w w') : SF ga w0 w' := by
  obtain ⟨h1, ⟨X, hX, h2⟩, h3⟩ := h
  exact ⟨h1.below hb, ⟨X, hX, (hb.block _ (lt_of_block h2)).trans h2⟩, below_call h3 hb⟩
set_option maxHeartbeats 2000000 in
theorem operate_add (ga gc : Nat) (w : World) (hf : Fives ga w) :
    Calls Tryz.prog 207 #[.int .i64 12, .int .i64 0, .slice (some ⟨ga, 0, none⟩) 2 gc] w fun e w' => e = .returned V10 ∧ Below w.heap.size w w' := by
  have HF := Lib.hid hf
  clear hf
  go_enter Tryz.func207, Tryz.ntmps207
  go_wp2_with fail
  have hS : SF ga w (w.alloc (.cells #[.int .i64 0, .int .i64 0, .string ⟨#[]⟩] 23)).drew := ⟨HF.out.below (by go_grown), ⟨_, rfl, heap_alloc_new w _⟩, by go_grown⟩
  refine wp_region_held_drew (S := SF ga w) (by kernel_rfl) hS ?_
  clear hS
  intro hS
  generalize (w.alloc (.cells #[.int .i64 0, .int .i64 0, .string ⟨#[]⟩] 23)).drew = wd at hS ⊢
  refine wpAnyH_take (i := 0) (oi := ⟨some 53, _, _, _, _, _⟩) (v := .int .i64 12) rfl (by kernel_rfl) (by kernel_rfl) (by kernel_rfl) (fun _ _ _ h => h) (Or.inl ⟨rfl, fun w' h => by go_simp⟩) hS ?_
  try simp only [Act.put, List.setIfInBounds_toArray, List.set_cons_zero, List.set_cons_succ]
  refine wpAnyH_take (i := 1) (oi := ⟨some 54, _, _, _, _, _⟩) (v := .slice (some ⟨ga, 0, none⟩) 2 gc) rfl (by kernel_rfl) (by kernel_rfl) (by kernel_rfl) (fun _ _ _ h => h) (Or.inl ⟨rfl, fun w' h => by go_simp⟩) hS ?_
  try simp only [Act.put, List.setIfInBounds_toArray, List.set_cons_zero, List.set_cons_succ]
  refine wpAnyH_take (i := 2) (oi := ⟨some 55, _, _, _, _, _⟩) (v := .pointer (some ⟨ga, 0, none⟩)) rfl (by kernel_rfl) (by kernel_rfl) (by kernel_rfl) (fun _ _ _ h => h) (Or.inl ⟨rfl, fun w' h => by go_simp⟩) hS ?_
  try simp only [Act.put, List.setIfInBounds_toArray, List.set_cons_zero, List.set_cons_succ]
  refine wpAnyH_take (i := 3) (oi := ⟨some 56, _, _, _, _, _⟩) (v := V5) rfl (by kernel_rfl) (by kernel_rfl) (by kernel_rfl) (fun _ _ _ h => h) (Or.inl ⟨rfl, fun w' h => by have c0 := h.fives.c0; have c1 := h.fives.c1; have c2 := h.fives.c2; go_simp⟩) hS ?_
  try simp only [Act.put, List.setIfInBounds_toArray, List.set_cons_zero, List.set_cons_succ]
  refine wpAnyH_take (i := 4) (oi := ⟨some 57, _, _, _, _, _⟩) (v := .slice (some ⟨ga, 0, none⟩) 2 gc) rfl (by kernel_rfl) (by kernel_rfl) (by kernel_rfl) (fun _ _ _ h => h) (Or.inl ⟨rfl, fun w' h => by go_simp⟩) hS ?_
  try simp only [Act.put, List.setIfInBounds_toArray, List.set_cons_zero, List.set_cons_succ]
  refine wpAnyH_take (i := 5) (oi := ⟨some 58, _, _, _, _, _⟩) (v := .pointer (some ⟨ga, 3, none⟩)) rfl (by kernel_rfl) (by kernel_rfl) (by kernel_rfl) (fun _ _ _ h => h) (Or.inl ⟨rfl, fun w' h => by go_simp⟩) hS ?_
  try simp only [Act.put, List.setIfInBounds_toArray, List.set_cons_zero, List.set_cons_succ]
  refine wpAnyH_take (i := 6) (oi := ⟨some 59, _, _, _, _, _⟩) (v := V5) rfl (by kernel_rfl) (by kernel_rfl) (by kernel_rfl) (fun _ _ _ h => h) (Or.inl ⟨rfl, fun w' h => by have c0 := h.fives.c3; have c1 := h.fives.c4; have c2 := h.fives.c5; go_simp⟩) hS ?_
  try simp only [Act.put, List.setIfInBounds_toArray, List.set_cons_zero, List.set_cons_succ]
  refine wpAnyH_ready (rs := [7]) (by kernel_rfl) (by simp) ?_
  refine AllReadyH.cons rfl (fun K hK => ?_) AllReadyH.nil
  go_simp
  refine (operateTwo_add _).mono ?_
  rintro e x1 ⟨rfl, hb1⟩
  refine hK.out _ _ (hS.below hb1) ?_
  clear hK K hb1 hS
  intro hS
  try simp only [Act.put, List.setIfInBounds_toArray, List.set_cons_zero, List.set_cons_succ]
  refine wpAnyH_ready (rs := [8]) (by kernel_rfl) (by simp) ?_
  refine AllReadyH.cons (o := ⟨none, _, _, _, _, _⟩) rfl (fun K hK => ?_) AllReadyH.nil
  rw [if_pos (by rfl)]
  obtain ⟨h1, ⟨X, hX, h2⟩, h3⟩ := hS
  refine wp_store_row 23 (.tmp 6) (.tmp 60) rfl w.heap.size #[.int .i64 2, .int .i64 10, .string ⟨#[]⟩] rfl rfl 23 X h2 size23 hX (by simp [Value.oneCell']) ?_
  have hP := puts_setRow (cells := #[.int .i64 2, .int .i64 10, .string ⟨#[]⟩]) h2
  generalize World.setRow _ w.heap.size #[.int .i64 2, .int .i64 10, .string ⟨#[]⟩] = w5 at hP ⊢
  have low : Below w.heap.size w w5 := hP.below h3 (Nat.le_refl _)
  refine hK.out _ _ ⟨HF.out.below low, ⟨_, rfl, hP.at'⟩, low⟩ ?_
  clear hK K h1 h2 h3
  intro _
  refine wpAnyH_done (by kernel_rfl) ?_ _
  have HP := Lib.hid hP
  have HL := Lib.hid low
  clear hP low
  go_wp2
  refine bodyPost_ret (results_cell_row rfl _ _ w.heap.size 23 #[.int .i64 2, .int .i64 10, .string ⟨#[]⟩] (0, 0) _ ?_ HP.out.at' Tryz.underlying23 rfl size23) rfl ?_
  · rfl
  · exact ⟨rfl, HL.out⟩
end YtabojeleomfgnaaGreatDoor
end Go.Proofs
