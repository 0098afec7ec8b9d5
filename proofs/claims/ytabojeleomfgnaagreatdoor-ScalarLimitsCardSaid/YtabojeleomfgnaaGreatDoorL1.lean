/- The values of the Args of add(:a,5). -/
import Derived.Test.YtabojeleomfgnaaGreatDoorK2
namespace Go.Proofs
open Go.RowKit
namespace YtabojeleomfgnaaGreatDoor
set_option maxRecDepth 100000
/-- one value, 5, at block bv -/
structure Row5 (bv : Nat) (w : World) : Prop where
  c0 : w.cell? ⟨bv, 0, none⟩ = some (.int .i64 2)
  c1 : w.cell? ⟨bv, 1, none⟩ = some (.int .i64 5)
  c2 : w.cell? ⟨bv, 2, none⟩ = some (.string ⟨#[]⟩)
  lt : bv < w.heap.size
theorem Row5.below {bv : Nat} {w w' : World} (h : Row5 bv w) (hb : Below w.heap.size w w') : Row5 bv w' :=
  ⟨(hb.cell (p := ⟨bv, 0, none⟩) h.lt).trans h.c0, (hb.cell (p := ⟨bv, 1, none⟩) h.lt).trans h.c1, (hb.cell (p := ⟨bv, 2, none⟩) h.lt).trans h.c2, Nat.lt_of_lt_of_le h.lt hb.size⟩
abbrev factsV (bc bv : Nat) (pa : Option Addr) : Value := .agg #[.slice (some ⟨bc, 0, none⟩) 1 1, .slice pa 0 0, .slice (some ⟨bv, 0, none⟩) 1 1, nilS]
abbrev V5 : Value := val 2 5 ⟨#[]⟩
theorem clean5 (w : World) : Calls Tryz.prog 94 #[V5] w fun e w' => e = .returned V5 ∧ Below w.heap.size w w' := by
  have h := clean_any 2 5 ⟨#[]⟩ (Nat.zero_le _) w
  rw [show cl 2 5 ⟨#[]⟩ = V5 from r25] at h
  exact h
set_option maxHeartbeats 1000000 in
theorem value_5 (bc bv : Nat) (pa : Option Addr) (w : World) : Calls Tryz.prog 155 #[factsV bc bv pa, E5] w fun e w' => e = .returned V5 ∧ Below w.heap.size w w' := by
  go_enter Tryz.func155, Tryz.ntmps155
  go_wp2
  exact bodyPost_ret (v := V5) (by simp [results, Tryz.results155, go_sem]; try rfl) rfl ⟨rfl, by go_grown⟩
/-- while the column's value is fetched -/
structure SA7 (bc bv : Nat) (pa : Option Addr) (w0 w : World) : Prop where
  fc : w.heap[w0.heap.size]? = some (.cells #[.slice (some ⟨bc, 0, none⟩) 1 1, .slice pa 0 0, .slice (some ⟨bv, 0, none⟩) 1 1, nilS] 138 (0, 0))
  ex : w.heap[w0.heap.size + 1]? = some (.cells (exprC 3 0 0 0 0 ⟨#[]⟩ ⟨#[]⟩ SA nilS) 70 (0, 0))
  res : ∃ X : Array Value, X.size = 3 ∧ w.heap[w0.heap.size + 2]? = some (.cells X 23 (0, 0))
  col : Col bc w
  row : Row5 bv w
  low : Below w0.heap.size w0 w
theorem SA7.below {bc bv : Nat} {pa : Option Addr} {w0 w w' : World} (h : SA7 bc bv pa w0 w) (hb : Below w.heap.size w w') : SA7 bc bv pa w0 w' := by
  obtain ⟨h1, h2, ⟨X, hX, h3⟩, h4, h5, h6⟩ := h
  exact ⟨(hb.block _ (lt_of_block h1)).trans h1, (hb.block _ (lt_of_block h2)).trans h2, ⟨X, hX, (hb.block _ (lt_of_block h3)).trans h3⟩, h4.below hb, h5.below hb, below_call h6 hb⟩
theorem size131 : (Tryz.prog.info? 131).map (·.size) = some 2 := by kernel_rfl
theorem size23 : (Tryz.prog.info? 23).map (·.size) = some 3 := by kernel_rfl
set_option maxHeartbeats 4000000 in
theorem value_A (bc bv : Nat) (pa : Option Addr) (w : World) (hc : Col bc w) (hr : Row5 bv w) : Calls Tryz.prog 155 #[factsV bc bv pa, EA] w fun e w' => e = .returned V5 ∧ Below w.heap.size w w' := by
  have HC := Lib.hid hc
  have HR := Lib.hid hr
  clear hc hr
  go_enter Tryz.func155, Tryz.ntmps155
  go_wp2_with fail
  have hb0 : Below w.heap.size w (((w.alloc (.cells #[.slice (some ⟨bc, 0, none⟩) 1 1, .slice pa 0 0, .slice (some ⟨bv, 0, none⟩) 1 1, nilS] 138)).alloc (.cells (exprC 3 0 0 0 0 ⟨#[]⟩ ⟨#[]⟩ SA nilS) 70)).alloc (.cells #[.int .i64 0, .int .i64 0, .string ⟨#[]⟩] 23)).drew := by go_grown
  have hS : SA7 bc bv pa w (((w.alloc (.cells #[.slice (some ⟨bc, 0, none⟩) 1 1, .slice pa 0 0, .slice (some ⟨bv, 0, none⟩) 1 1, nilS] 138)).alloc (.cells (exprC 3 0 0 0 0 ⟨#[]⟩ ⟨#[]⟩ SA nilS) 70)).alloc (.cells #[.int .i64 0, .int .i64 0, .string ⟨#[]⟩] 23)).drew :=
    ⟨(heap_alloc_old _ _ (by simp only [World.size_alloc]; omega)).trans ((heap_alloc_old _ _ (by simp)).trans (heap_alloc_new w _)), (heap_alloc_old _ _ (by simp)).trans (new_at _ _ _ (by simp)), ⟨_, rfl, new_at _ _ _ (by simp)⟩, HC.out.below hb0, HR.out.below hb0, hb0⟩
  clear hb0
  refine wp_region_held_drew (S := SA7 bc bv pa w) (by kernel_rfl) hS ?_
  clear hS
  intro hS
  generalize (((w.alloc (.cells #[.slice (some ⟨bc, 0, none⟩) 1 1, .slice pa 0 0, .slice (some ⟨bv, 0, none⟩) 1 1, nilS] 138)).alloc (.cells (exprC 3 0 0 0 0 ⟨#[]⟩ ⟨#[]⟩ SA nilS) 70)).alloc (.cells #[.int .i64 0, .int .i64 0, .string ⟨#[]⟩] 23)).drew = wd at hS ⊢
  refine wpAnyH_take (i := 0) (oi := ⟨some 25, _, _, _, _, _⟩) (v := .pointer (some ⟨w.heap.size, 2, none⟩)) rfl (by kernel_rfl) (by kernel_rfl) (by kernel_rfl) (fun _ _ _ h => h) (Or.inl ⟨rfl, fun w' h => by go_simp⟩) hS ?_
  simp only [Act.put, List.setIfInBounds_toArray, List.set_cons_zero, List.set_cons_succ]
  refine wpAnyH_take (i := 1) (oi := ⟨some 26, _, _, _, _, _⟩) (v := .slice (some ⟨bv, 0, none⟩) 1 1) rfl (by kernel_rfl) (by kernel_rfl) (by kernel_rfl) (fun _ _ _ h => h) (Or.inl ⟨rfl, fun w' h => by have c := (cell_of_row w' w.heap.size 2 _ _ _ h.fc); simp at c; go_simp⟩) hS ?_
  simp only [Act.put, List.setIfInBounds_toArray, List.set_cons_zero, List.set_cons_succ]
  refine wpAnyH_take (i := 2) (oi := ⟨some 27, _, _, _, _, _⟩) (v := .pointer (some ⟨w.heap.size, 0, none⟩)) rfl (by kernel_rfl) (by kernel_rfl) (by kernel_rfl) (fun _ _ _ h => h) (Or.inl ⟨rfl, fun w' h => by go_simp⟩) hS ?_
  simp only [Act.put, List.setIfInBounds_toArray, List.set_cons_zero, List.set_cons_succ]
  refine wpAnyH_take (i := 3) (oi := ⟨some 28, _, _, _, _, _⟩) (v := scopeV bc (.slice pa 0 0)) rfl (by kernel_rfl) (by kernel_rfl) (by kernel_rfl) (fun _ _ _ h => h) (Or.inl ⟨rfl, fun w' h => by have c := (cell_of_row w' w.heap.size 0 _ _ _ h.fc); have d := (cell_of_row w' w.heap.size 1 _ _ _ h.fc); simp at c d; go_simp⟩) hS ?_
  simp only [Act.put, List.setIfInBounds_toArray, List.set_cons_zero, List.set_cons_succ]
  refine wpAnyH_take (i := 4) (oi := ⟨some 29, _, _, _, _, _⟩) (v := EA) rfl (by kernel_rfl) (by kernel_rfl) (by kernel_rfl) (fun _ _ _ h => h) (yld_load70 rfl (.tmp 3) rfl (w.heap.size + 1) _ rfl rfl (fun _ h => h.ex)) hS ?_
  simp only [Act.put, List.setIfInBounds_toArray, List.set_cons_zero, List.set_cons_succ]
  refine wpAnyH_ready (rs := [5]) (by kernel_rfl) (by simp) ?_
  refine AllReadyH.cons rfl (fun K hK => ?_) AllReadyH.nil
  go_simp
  refine (column_A bc pa _ hS.col).mono ?_
  rintro e w3 ⟨rfl, hb3⟩
  refine hK.out _ _ (hS.below hb3) ?_
  clear hK K hb3 hS
  intro hS
  refine wpAnyH_take (i := 6) (oi := ⟨some 31, _, _, _, _, _⟩) (v := .pointer (some ⟨bv, 0, none⟩)) rfl (by kernel_rfl) (by kernel_rfl) (by kernel_rfl) (fun _ _ _ h => h) (Or.inl ⟨rfl, fun w' h => by go_simp⟩) hS ?_
  simp only [Act.put, List.setIfInBounds_toArray, List.set_cons_zero, List.set_cons_succ]
  refine wpAnyH_take (i := 7) (oi := ⟨some 32, _, _, _, _, _⟩) (v := V5) rfl (by kernel_rfl) (by kernel_rfl) (by kernel_rfl) (fun _ _ _ h => h) (Or.inl ⟨rfl, fun w' h => by have c := h.row.c0; have d := h.row.c1; have e := h.row.c2; go_simp⟩) hS ?_
  simp only [Act.put, List.setIfInBounds_toArray, List.set_cons_zero, List.set_cons_succ]
  refine wpAnyH_ready (rs := [8]) (by kernel_rfl) (by simp) ?_
  refine AllReadyH.cons rfl (fun K hK => ?_) AllReadyH.nil
  go_simp
  refine (clean5 _).mono ?_
  rintro e w4 ⟨rfl, hb4⟩
  refine hK.out _ _ (hS.below hb4) ?_
  clear hK K hb4 hS
  intro hS
  refine wpAnyH_ready (rs := [9]) (by kernel_rfl) (by simp) ?_
  refine AllReadyH.cons rfl (fun K hK => ?_) AllReadyH.nil
  rw [if_pos (by rfl)]
  obtain ⟨h1, h2, ⟨X, hX, h3⟩, h4, h5, h6⟩ := hS
  refine wp_store_row 23 (.tmp 4) (.tmp 33) rfl (w.heap.size + 2) #[.int .i64 2, .int .i64 5, .string ⟨#[]⟩] rfl rfl 23 X h3 size23 hX (by simp [Value.oneCell']) ?_
  have hP := puts_setRow (cells := #[.int .i64 2, .int .i64 5, .string ⟨#[]⟩]) h3
  generalize w4.setRow (w.heap.size + 2) #[.int .i64 2, .int .i64 5, .string ⟨#[]⟩] = w5 at hP ⊢
  have low : Below w.heap.size w w5 := hP.below h6 (by omega)
  have hS5 : SA7 bc bv pa w w5 := ⟨(hP.keeps.block _ (lt_of_block h1) (by omega)).trans h1, (hP.keeps.block _ (lt_of_block h2) (by omega)).trans h2, ⟨_, rfl, hP.at'⟩, HC.out.below low, HR.out.below low, low⟩
  refine hK.out _ _ hS5 ?_
  clear hK K h1 h2 h3 h4 h5 h6
  intro hS6
  refine wpAnyH_done (by kernel_rfl) ?_ _
  have HP := Lib.hid hP
  have HL := Lib.hid low
  clear hP low hS5 hS6
  go_wp2
  refine bodyPost_ret (results_cell_row rfl _ _ (w.heap.size + 2) 23 #[.int .i64 2, .int .i64 5, .string ⟨#[]⟩] (0, 0) _ ?_ HP.out.at' Tryz.underlying23 rfl size23) rfl ?_
  · rfl
  · exact ⟨rfl, HL.out⟩
end YtabojeleomfgnaaGreatDoor
end Go.Proofs
