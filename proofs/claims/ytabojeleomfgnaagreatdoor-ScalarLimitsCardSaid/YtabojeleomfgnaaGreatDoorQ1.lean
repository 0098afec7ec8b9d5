/- Eval of add(:a,5). -/
import Derived.Test.YtabojeleomfgnaaGreatDoorP1
namespace Go.Proofs
open Go.RowKit
namespace YtabojeleomfgnaaGreatDoor
set_option maxRecDepth 100000
theorem results_val_tmp {fn : Func} {p q : Tmp} (h : fn.results = #[.cell p 23, .tmp q]) (tmps : Array Value) (w : World) (g : Nat) (cs : Array Value)
    (hp : tmps.getD p undef = .pointer (some ⟨g, 0, none⟩)) (hg : w.heap[g]? = some (.cells cs 23 (0, 0))) (hc : cs.size = 3) :
    (results fn tmps).run Tryz.prog w = .ok (.tuple #[.agg cs, tmps.getD q undef]) w := by
  have hp' : tmps[p]?.getD undef = .pointer (some ⟨g, 0, none⟩) := by simpa using hp
  have hl := run_loadVar_row (P := Tryz.prog) w g 23 23 cs (0, 0) _ hg Tryz.underlying23 rfl (by rw [hc]; exact size23)
  simp [results, h, hp', asAddr, hl]
theorem make0 (w : World) : (Instr.makeSlice 51 (.int .i64 0) (.int .i64 0)).run Tryz.prog w = .ok (.slice (some ⟨w.heap.size, 0, none⟩) 0 0) (w.alloc (.cells #[] 3)) := by kernel_rfl
set_option maxHeartbeats 2000000 in
theorem kow_add (b cap bc : Nat) (pa : Option Addr) (w : World) (h : Col bc w) (ht : Two b w) (ho : Ops w) : Calls Tryz.prog 147 #[scopeV bc (.slice pa 0 0), EADD b cap] w fun e w' => e = .returned (.tuple #[.int .i64 2, .int .i64 0]) ∧ Below w.heap.size w w' := by
  have H := fun w' => fun hb : Below w.heap.size w w' => Lib.hid (And.intro (h.below hb) (And.intro (ht.below hb) (ho.below hb)))
  clear h ht ho
  go_enter Tryz.func147, Tryz.ntmps147
  go_wp2_with fail
  have F0 := H _ (show Below w.heap.size w ((w.alloc (.cells #[.slice (some ⟨bc, 0, none⟩) 1 1, .slice pa 0 0] 131)).alloc (.cells (exprC 4 12 0 0 0 ⟨#[]⟩ ⟨#[]⟩ ⟨#[]⟩ (.slice (some ⟨b, 0, none⟩) 2 cap)) 70)) by go_grown)
  refine (tooLarge_add b cap _ F0.out.2.1).mono ?_
  rintro e w1 ⟨rfl, hb1⟩
  have B1 := Lib.hid (below_call (w := w) (by go_grown) hb1)
  have hE : Hid (w1.heap[w.heap.size + 1]? = some (.cells (exprC 4 12 0 0 0 ⟨#[]⟩ ⟨#[]⟩ ⟨#[]⟩ (.slice (some ⟨b, 0, none⟩) 2 cap)) 70 (0, 0))) := (hb1.block _ (by simp)).trans (new_at _ _ _ (by simp))
  have hs : w1.heap[w.heap.size]? = some (.cells #[.slice (some ⟨bc, 0, none⟩) 1 1, .slice pa 0 0] 131 (0, 0)) := (hb1.block _ (by simp only [World.size_alloc]; omega)).trans ((heap_alloc_old _ _ (by simp)).trans (heap_alloc_new w _))
  have s0 : w1.cell? ⟨w.heap.size, 0, none⟩ = some (.slice (some ⟨bc, 0, none⟩) 1 1) := (cell_of_row w1 _ 0 _ _ _ hs).trans rfl
  have s1 : w1.cell? ⟨w.heap.size, 1, none⟩ = some (.slice pa 0 0) := (cell_of_row w1 _ 1 _ _ _ hs).trans rfl
  clear hb1 hs F0
  go_wp2_with (refine load_expr ?_ (.tmp 3) ?_ (w.heap.size + 1) (exprC 4 12 0 0 0 ⟨#[]⟩ ⟨#[]⟩ ⟨#[]⟩ (.slice (some ⟨b, 0, none⟩) 2 cap)) ?_ ?_ ?_ ?_; exact rfl; exact rfl; exact rfl; exact hE.out; exact rfl)
  have F1 := H _ B1.out
  refine (kindOf_add b cap bc pa _ F1.out.1 F1.out.2.1 F1.out.2.2).mono ?_
  rintro e w2 ⟨rfl, hb2⟩
  have B2 := Lib.hid (below_call B1.out hb2)
  clear hb2
  go_wp2_with fail
  go_ret2
  exact ⟨rfl, B2.out⟩
set_option maxHeartbeats 2000000 in
theorem eval_add (b cap bc bv : Nat) (w : World) (h : Col bc w) (hr : Row5 bv w) (ht : Two b w) (ho : Ops w) : Calls Tryz.prog 78 #[EADD b cap, .slice (some ⟨bc, 0, none⟩) 1 1, .slice (some ⟨bv, 0, none⟩) 1 1, nilS] w fun e w' => e = .returned (.tuple #[V10, .int .i64 0]) ∧ Below w.heap.size w w' := by
  have H := fun w' => fun hb : Below w.heap.size w w' => Lib.hid (And.intro (h.below hb) (And.intro (ht.below hb) (And.intro (ho.below hb) (hr.below hb))))
  clear h ht ho hr
  have hmk := make0
  go_enter Tryz.func78, Tryz.ntmps78
  go_wp2_with fail
  refine wp_loop_rounds 1 ?_
  rw [rounds_succ]
  go_wp2_with fail
  have L0 : Hid (Below w.heap.size w ((((w.alloc (.cells (exprC 4 12 0 0 0 ⟨#[]⟩ ⟨#[]⟩ ⟨#[]⟩ (.slice (some ⟨b, 0, none⟩) 2 cap)) 70)).alloc (.cells #[.int .i64 0, .int .i64 0, .string ⟨#[]⟩] 23)).alloc (.cells #[] 3)).alloc (.cells #[.slice (some ⟨bc, 0, none⟩) 1 1, .slice (some ⟨w.heap.size + 1 + 1, 0, none⟩) 0 0] 131))) := (show Below w.heap.size w ((((w.alloc (.cells (exprC 4 12 0 0 0 ⟨#[]⟩ ⟨#[]⟩ ⟨#[]⟩ (.slice (some ⟨b, 0, none⟩) 2 cap)) 70)).alloc (.cells #[.int .i64 0, .int .i64 0, .string ⟨#[]⟩] 23)).alloc (.cells #[] 3)).alloc (.cells #[.slice (some ⟨bc, 0, none⟩) 1 1, .slice (some ⟨w.heap.size + 1 + 1, 0, none⟩) 0 0] 131)) by go_grown)
  have e0 : Hid (((((w.alloc (.cells (exprC 4 12 0 0 0 ⟨#[]⟩ ⟨#[]⟩ ⟨#[]⟩ (.slice (some ⟨b, 0, none⟩) 2 cap)) 70)).alloc (.cells #[.int .i64 0, .int .i64 0, .string ⟨#[]⟩] 23)).alloc (.cells #[] 3)).alloc (.cells #[.slice (some ⟨bc, 0, none⟩) 1 1, .slice (some ⟨w.heap.size + 1 + 1, 0, none⟩) 0 0] 131)).heap[w.heap.size]? = some (.cells (exprC 4 12 0 0 0 ⟨#[]⟩ ⟨#[]⟩ ⟨#[]⟩ (.slice (some ⟨b, 0, none⟩) 2 cap)) 70 (0, 0))) := (heap_alloc_old _ _ (by simp only [World.size_alloc]; omega)).trans ((heap_alloc_old _ _ (by simp only [World.size_alloc]; omega)).trans ((heap_alloc_old _ _ (by simp)).trans (heap_alloc_new w _)))
  have g0 : Hid (((((w.alloc (.cells (exprC 4 12 0 0 0 ⟨#[]⟩ ⟨#[]⟩ ⟨#[]⟩ (.slice (some ⟨b, 0, none⟩) 2 cap)) 70)).alloc (.cells #[.int .i64 0, .int .i64 0, .string ⟨#[]⟩] 23)).alloc (.cells #[] 3)).alloc (.cells #[.slice (some ⟨bc, 0, none⟩) 1 1, .slice (some ⟨w.heap.size + 1 + 1, 0, none⟩) 0 0] 131)).heap[w.heap.size + 1]? = some (.cells #[.int .i64 0, .int .i64 0, .string ⟨#[]⟩] 23 (0, 0))) := (heap_alloc_old _ _ (by simp only [World.size_alloc]; omega)).trans ((heap_alloc_old _ _ (by simp)).trans (new_at _ _ _ (by simp)))
  have p0 : Hid (((((w.alloc (.cells (exprC 4 12 0 0 0 ⟨#[]⟩ ⟨#[]⟩ ⟨#[]⟩ (.slice (some ⟨b, 0, none⟩) 2 cap)) 70)).alloc (.cells #[.int .i64 0, .int .i64 0, .string ⟨#[]⟩] 23)).alloc (.cells #[] 3)).alloc (.cells #[.slice (some ⟨bc, 0, none⟩) 1 1, .slice (some ⟨w.heap.size + 1 + 1, 0, none⟩) 0 0] 131)).heap[w.heap.size + 1 + 1 + 1]? = some (.cells #[.slice (some ⟨bc, 0, none⟩) 1 1, .slice (some ⟨w.heap.size + 1 + 1, 0, none⟩) 0 0] 131 (0, 0))) := new_at _ _ _ (by simp)
  generalize ((((w.alloc (.cells (exprC 4 12 0 0 0 ⟨#[]⟩ ⟨#[]⟩ ⟨#[]⟩ (.slice (some ⟨b, 0, none⟩) 2 cap)) 70)).alloc (.cells #[.int .i64 0, .int .i64 0, .string ⟨#[]⟩] 23)).alloc (.cells #[] 3)).alloc (.cells #[.slice (some ⟨bc, 0, none⟩) 1 1, .slice (some ⟨w.heap.size + 1 + 1, 0, none⟩) 0 0] 131)) = wa at L0 e0 g0 p0 ⊢
  have F0 := H _ L0.out
  refine (kow_add b cap bc _ _ F0.out.1 F0.out.2.1 F0.out.2.2.1).mono ?_
  rintro e w1 ⟨rfl, hb1⟩
  have L1 := Lib.hid (below_call L0.out hb1)
  have e1 := Lib.hid ((hb1.block _ (lt_of_block e0.out)).trans e0.out)
  have g1 := Lib.hid ((hb1.block _ (lt_of_block g0.out)).trans g0.out)
  have p1 := (hb1.block _ (lt_of_block p0.out)).trans p0.out
  have s0 : w1.cell? ⟨w.heap.size + 1 + 1 + 1, 0, none⟩ = some (.slice (some ⟨bc, 0, none⟩) 1 1) := (cell_of_row w1 _ 0 _ _ _ p1).trans rfl
  have s1 : w1.cell? ⟨w.heap.size + 1 + 1 + 1, 1, none⟩ = some (.slice (some ⟨w.heap.size + 1 + 1, 0, none⟩) 0 0) := (cell_of_row w1 _ 1 _ _ _ p1).trans rfl
  clear hb1 p1 L0 e0 g0 p0 F0
  go_wp2_with (refine load_expr ?_ (.tmp 4) ?_ w.heap.size (exprC 4 12 0 0 0 ⟨#[]⟩ ⟨#[]⟩ ⟨#[]⟩ (.slice (some ⟨b, 0, none⟩) 2 cap)) ?_ ?_ ?_ ?_; exact rfl; exact rfl; exact rfl; exact e1.out; exact rfl)
  have F1 := H _ L1.out
  refine (value_add b cap bc bv _ _ F1.out.1 F1.out.2.2.2 F1.out.2.1).mono ?_
  rintro e w2 ⟨rfl, hb2⟩
  have L2 := Lib.hid (below_call L1.out hb2)
  have g2 := Lib.hid ((hb2.block _ (lt_of_block g1.out)).trans g1.out)
  clear hb2 s0 s1 F1 e1 g1 L1
  go_wp2_with (refine wpList_store_row ?_ 23 (.tmp 8) (.tmp 57) ?_ (w.heap.size + 1) #[.int .i64 2, .int .i64 10, .string ⟨#[]⟩] ?_ ?_ 23 #[.int .i64 0, .int .i64 0, .string ⟨#[]⟩] ?_ ?_ ?_ ?_ ?_; exact rfl; exact rfl; exact rfl; exact rfl; exact g2.out; exact size23; exact rfl; simp [Value.oneCell'])
  have hP := puts_setRow (cells := #[.int .i64 2, .int .i64 10, .string ⟨#[]⟩]) g2.out
  generalize World.setRow _ (w.heap.size + 1) #[.int .i64 2, .int .i64 10, .string ⟨#[]⟩] = w5 at hP ⊢
  have low : Below w.heap.size w w5 := hP.below L2.out (by omega)
  refine bodyPost_ret (results_val_tmp rfl _ _ (w.heap.size + 1) #[.int .i64 2, .int .i64 10, .string ⟨#[]⟩] ?_ hP.at' rfl) rfl ?_
  · rfl
  · exact ⟨rfl, low⟩
end YtabojeleomfgnaaGreatDoor
end Go.Proofs
