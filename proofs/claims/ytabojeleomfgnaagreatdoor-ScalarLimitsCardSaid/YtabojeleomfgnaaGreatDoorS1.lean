/- ValueChecks: the law. -/
import Derived.Test.YtabojeleomfgnaaGreatDoorA5
import Derived.Test.YtabojeleomfgnaaGreatDoorT1
import Derived.BigQuiet
namespace Go.Proofs
open Go.RowKit
namespace YtabojeleomfgnaaGreatDoor
set_option maxRecDepth 100000
/-- one value at block g, and nothing else turned -/
def V1 (g : Nat) (cs : Array Value) (w0 w : World) : Prop := w.heap[g]? = some (.cells cs 23 (0, 0)) ∧ Below w0.heap.size w0 w
theorem V1.below {g : Nat} {cs : Array Value} {w0 w w' : World} (h : V1 g cs w0 w) (hb : Below w.heap.size w w') : V1 g cs w0 w' :=
  ⟨(hb.block _ (by simpa using (Array.getElem?_eq_some_iff.1 h.1).1)).trans h.1, below_call h.2 hb⟩
theorem size23' : (Tryz.prog.info? 23).map (·.size) = some 3 := by kernel_rfl
theorem run_load23 {C : World → Prop} {o : Oper} {a : Act} (x : Operand) (ho : o.op = .load 23 x) (g : Nat) (cs : Array Value) (hx : a.eval x = .pointer (some ⟨g, 0, none⟩)) (hC : cs.size = 3)
    (hS : ∀ w, C w → w.heap[g]? = some (.cells cs 23 (0, 0))) (w : World) (hw : C w) : (execOp a.eval o).run Tryz.prog w = .ok (.value (.agg cs)) w := by
  unfold execOp
  simp only [ho, hx, Instr.loadAt, Instr.sureAddr, Sem.run_bind, Sem.run_pure, Result.andThen_ok, run_loadVar_row (P := Tryz.prog) w g 23 23 cs (0, 0) _ (hS w hw) Tryz.underlying23 rfl (by rw [hC]; exact size23')]
set_option maxHeartbeats 400000 in
theorem law_checks (O : World → Prop) (hO : ∀ w w', O w → Below w.heap.size w w' → O w') (hv : ∀ w, O w → Calls Tryz.prog 17 #[] w fun e w' => e = .returned (.bool true) ∧ Below w.heap.size w w')
    (kind k n : Int) (s : ByteArray) (hs : s.size ≤ maxLen) (w : World) (ho : O w) :
    Calls Tryz.prog 3 #[.int .i64 kind, val k n s] w fun e w' => e = .returned (.bool true) ∧ Below w.heap.size w w' := by
  have HO := Lib.hid hO
  have HV := Lib.hid hv
  have H0 := Lib.hid ho
  have HS := Lib.hid hs
  clear hO hv ho hs
  go_enter Tryz.func3, Tryz.ntmps3
  go_wp2_with fail
  refine region_all (fun w' => V1 w.heap.size #[.int .i64 k, .int .i64 n, .string s] w w' ∧ O w') (by kernel_rfl) (by kernel_rfl) ?_ ?_
  · exact ⟨⟨heap_alloc_new w _, by go_grown⟩, HO.out _ _ H0.out (by go_grown)⟩
  refine s_call (.bool true) 17 #[] (by rfl) (fun w => by go_simp) (fun w' h => (HV.out w' h.2).mono fun e x hx => ⟨hx.1, h.1.below hx.2, HO.out _ _ h.2 hx.2⟩) ?_
  simp only [Act.put, List.setIfInBounds_toArray, List.set_cons_zero, List.set_cons_succ]
  refine s_val (.bool true) (by rfl) (fun w' h => by rfl) ?_
  simp only [Act.put, List.setIfInBounds_toArray, List.set_cons_zero, List.set_cons_succ]
  refine s_val (.int .i64 kind) (by rfl) (fun w' h => by rfl) ?_
  simp only [Act.put, List.setIfInBounds_toArray, List.set_cons_zero, List.set_cons_succ]
  refine s_val (val k n s) (by rfl) (run_load23 (.tmp 3) rfl w.heap.size _ rfl rfl (fun w h => h.1.1)) ?_
  simp only [Act.put, List.setIfInBounds_toArray, List.set_cons_zero, List.set_cons_succ]
  refine s_call (.int .i64 (checkN kind k n s)) 18 #[.int .i64 kind, val k n s] (by rfl) (fun w => by go_simp) (fun w' h => (check_any kind k n s HS.out w').mono fun e x hx => ⟨hx.1, h.1.below hx.2, HO.out _ _ h.2 hx.2⟩) ?_
  simp only [Act.put, List.setIfInBounds_toArray, List.set_cons_zero, List.set_cons_succ]
  refine s_val (.int .i64 kind) (by rfl) (fun w' h => by rfl) ?_
  simp only [Act.put, List.setIfInBounds_toArray, List.set_cons_zero, List.set_cons_succ]
  refine s_val (val k n s) (by rfl) (run_load23 (.tmp 3) rfl w.heap.size _ rfl rfl (fun w h => h.1.1)) ?_
  simp only [Act.put, List.setIfInBounds_toArray, List.set_cons_zero, List.set_cons_succ]
  refine s_call (.int .i64 (checkN kind k n s)) 19 #[.int .i64 kind, val k n s] (by rfl) (fun w => by go_simp) (fun w' h => (checked_any kind k n s HS.out w').mono fun e x hx => ⟨hx.1, h.1.below hx.2, HO.out _ _ h.2 hx.2⟩) ?_
  simp only [Act.put, List.setIfInBounds_toArray, List.set_cons_zero, List.set_cons_succ]
  refine s_val (.bool true) (by rfl) (fun w' h => by go_simp) ?_
  simp only [Act.put, List.setIfInBounds_toArray, List.set_cons_zero, List.set_cons_succ]
  refine s_val (.bool true) (by rfl) (fun w' h => by rfl) ?_
  simp only [Act.put, List.setIfInBounds_toArray, List.set_cons_zero, List.set_cons_succ]
  refine s_val (.bool true) (by rfl) (fun w' h => by rfl) ?_
  simp only [Act.put, List.setIfInBounds_toArray, List.set_cons_zero, List.set_cons_succ]
  refine s_done ?_
  rintro w1 ⟨⟨h1, h2⟩, h3⟩
  have H2 := Lib.hid h2
  clear h1 h2 h3
  go_wp2
  go_ret
  exact ⟨rfl, H2.out⟩
end YtabojeleomfgnaaGreatDoor
end Go.Proofs
