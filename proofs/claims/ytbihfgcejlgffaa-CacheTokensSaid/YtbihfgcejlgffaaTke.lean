/- A cache: Hear of a notice that touches its object. -/
import Derived.Test.YtbihfgcejlgffaaTkd
namespace Go.Proofs
open Go.RowKit
namespace Ytbihfgcejlgffaa
set_option maxRecDepth 100000
/-- the cells of the notice -/
abbrev NT (r : Nat) : Array Value := #[.int .i64 3, .slice (some ⟨r, 0, none⟩) 1 1, .slice none 0 0]
set_option maxHeartbeats 1000000 in
theorem forget1_t (e g cg mm tg nt r : Nat) (u : Int) (w : World) (he : w.heap[e]? = some (.cells (EN 2 u g) 93 (0, 0))) (hc : w.heap[cg]? = some (.cells #[.map (some mm)] 117 (0, 0))) (hm : w.heap[mm]? = some (.map #[{ key := RK, val := .bool true, born := 0 }] 1)) (hn : w.heap[nt]? = some (.cells (NT r) 65 (0, 0))) :
    Calls Try.prog 77 #[NK, .pointer (some ⟨e, 0, none⟩), .pointer (some ⟨cg, 0, none⟩), .pointer (some ⟨tg, 0, none⟩), .pointer (some ⟨nt, 0, none⟩)] w fun x w' => x = .returned (.bool true) ∧ Below w.heap.size w w' := by
  have B1 : Hid (Below w.heap.size w (w.alloc (.cells #[.bool false, .string SA, .int .i64 0, .int .i64 1, .string S0] 88))) := Lib.hid ((Below.refl _ w).alloc (Nat.le_refl _) _)
  have e2 : w.cell? ⟨e, 2, none⟩ = some (.int .i64 2) := (cell_of_row _ _ 2 _ _ _ he).trans rfl
  have c0 : w.cell? ⟨cg, 0, none⟩ = some (.map (some mm)) := (cell_of_row _ _ 0 _ _ _ hc).trans rfl
  have n0 : w.cell? ⟨nt, 0, none⟩ = some (.int .i64 3) := (cell_of_row _ _ 0 _ _ _ hn).trans rfl
  have l1 : cg < w.heap.size := lt_of_block hc
  have l2 : e < w.heap.size := lt_of_block he
  have l3 : nt < w.heap.size := lt_of_block hn
  have hl : (Instr.lookup 117 (.map (some mm)) RK false).run Try.prog (w.alloc (.cells #[.bool false, .string SA, .int .i64 0, .int .i64 1, .string S0] 88)) = .ok (.bool true) (w.alloc (.cells #[.bool false, .string SA, .int .i64 0, .int .i64 1, .string S0] 88)) := look69 _ mm 1 0 _ (al _ hm)
  clear he hc hm hn
  go_enter Try.func77, Try.ntmps77
  go_wp2_with fail
  go_quiet (fail)
  go_wp2_with fail
  go_ret
  exact ⟨rfl, ⟨B1.out.os, B1.out.tape, B1.out.output, B1.out.size, B1.out.block⟩⟩
set_option maxHeartbeats 2000000 in
theorem delFunc_t (m e g cg mm tg nt r : Nat) (u : Int) (w : World) (hM : w.heap[m]? = some (.map #[{ key := NK, val := .pointer (some ⟨e, 0, none⟩), born := 0 }] 1)) (he : w.heap[e]? = some (.cells (EN 2 u g) 93 (0, 0))) (hc : w.heap[cg]? = some (.cells #[.map (some mm)] 117 (0, 0))) (hm : w.heap[mm]? = some (.map #[{ key := RK, val := .bool true, born := 0 }] 1)) (hn : w.heap[nt]? = some (.cells (NT r) 65 (0, 0))) :
    Calls Try.prog 76 #[.map (some m), .func (.func 77) #[] #[.pointer (some ⟨cg, 0, none⟩), .pointer (some ⟨tg, 0, none⟩), .pointer (some ⟨nt, 0, none⟩)]] w fun x w' => x = .returned (.tuple #[]) ∧ w'.heap[m]? = some (.map #[] 1) ∧ KX [m] w w' := by
  have M0 := Lib.hid hM
  have E0 := Lib.hid he
  have C0 := Lib.hid hc
  have D0 := Lib.hid hm
  have N0 := Lib.hid hn
  have hr := range83 w m 1 _ hM
  clear hM he hc hm hn
  go_enter Try.func76, Try.ntmps76
  go_wp2_with fail
  clear hr
  have I1 : Hid ((w.alloc (.mapIter (some m) 1 #[] 1)).heap[w.heap.size]? = some (.mapIter (some m) 1 #[] 1)) := Lib.hid (heap_alloc_new w _)
  have M1 := Lib.hid (al (.mapIter (some m) 1 #[] 1) M0.out)
  have E1 := Lib.hid (al (.mapIter (some m) 1 #[] 1) E0.out)
  have C1 := Lib.hid (al (.mapIter (some m) 1 #[] 1) C0.out)
  have D1 := Lib.hid (al (.mapIter (some m) 1 #[] 1) D0.out)
  have N1 := Lib.hid (al (.mapIter (some m) 1 #[] 1) N0.out)
  have K1 : Hid (KX [m] w (w.alloc (.mapIter (some m) 1 #[] 1))) := Lib.hid ((KX.refl _ _).alloc _)
  have NE := Lib.hid (show m ≠ w.heap.size ∧ e ≠ w.heap.size ∧ cg ≠ w.heap.size ∧ mm ≠ w.heap.size ∧ nt ≠ w.heap.size from ⟨by have := lt_of_block M0.out; omega, by have := lt_of_block E0.out; omega, by have := lt_of_block C0.out; omega, by have := lt_of_block D0.out; omega, by have := lt_of_block N0.out; omega⟩)
  clear M0 E0 C0 D0 N0
  generalize w.alloc (.mapIter (some m) 1 #[] 1) = w1 at I1 M1 E1 C1 D1 N1 K1 ⊢
  refine wp_loop_rounds 2 ?_
  rw [rounds_succ]
  have hn1 : ∀ t, (Instr.next (.pointer (some ⟨w.heap.size, 0, none⟩)) false t).run Try.prog w1 = .ok (.tuple #[.bool true, NK, .pointer (some ⟨e, 0, none⟩)]) (w1.putObj w.heap.size (.mapIter (some m) 1 #[0] 1)) := fun t => next_one w1 m w.heap.size _ t M1.out I1.out
  have I2 : Hid ((w1.putObj w.heap.size (.mapIter (some m) 1 #[0] 1)).heap[w.heap.size]? = some (.mapIter (some m) 1 #[0] 1)) := Lib.hid (World.putObj_heap_same (lt_of_block I1.out))
  have M2 : Hid ((w1.putObj w.heap.size (.mapIter (some m) 1 #[0] 1)).heap[m]? = some (.map #[{ key := NK, val := .pointer (some ⟨e, 0, none⟩), born := 0 }] 1)) := Lib.hid ((World.putObj_heap_other NE.out.1).trans M1.out)
  have E2 : Hid ((w1.putObj w.heap.size (.mapIter (some m) 1 #[0] 1)).heap[e]? = some (.cells (EN 2 u g) 93 (0, 0))) := Lib.hid ((World.putObj_heap_other NE.out.2.1).trans E1.out)
  have C2 : Hid ((w1.putObj w.heap.size (.mapIter (some m) 1 #[0] 1)).heap[cg]? = some (.cells #[.map (some mm)] 117 (0, 0))) := Lib.hid ((World.putObj_heap_other NE.out.2.2.1).trans C1.out)
  have D2 : Hid ((w1.putObj w.heap.size (.mapIter (some m) 1 #[0] 1)).heap[mm]? = some (.map #[{ key := RK, val := .bool true, born := 0 }] 1)) := Lib.hid ((World.putObj_heap_other NE.out.2.2.2.1).trans D1.out)
  have N2 : Hid ((w1.putObj w.heap.size (.mapIter (some m) 1 #[0] 1)).heap[nt]? = some (.cells (NT r) 65 (0, 0))) := Lib.hid ((World.putObj_heap_other NE.out.2.2.2.2).trans N1.out)
  have K2 : Hid (KX [m] w (w1.putObj w.heap.size (.mapIter (some m) 1 #[0] 1))) := Lib.hid (K1.out.put (Or.inr (Nat.le_refl _)))
  have he1 : (Instr.entry (.pointer (some ⟨w.heap.size, 0, none⟩))).run Try.prog (w1.putObj w.heap.size (.mapIter (some m) 1 #[0] 1)) = .ok (.tuple #[NK, .pointer (some ⟨e, 0, none⟩)]) (w1.putObj w.heap.size (.mapIter (some m) 1 #[0] 1)) := entry_one _ m w.heap.size _ M2.out I2.out
  go_wp2_with fail
  have Y2 : (w1.putObj w.heap.size (.mapIter (some m) 1 #[0] 1)).heap.size = w1.heap.size := by simp [World.putObj]
  have Q2 : Hid (((w1.putObj w.heap.size (.mapIter (some m) 1 #[0] 1)).alloc (.cells #[.bool false, .string SA, .int .i64 0, .int .i64 1, .string S0] 88)).heap[w1.heap.size]? = some (.cells #[.bool false, .string SA, .int .i64 0, .int .i64 1, .string S0] 88 (0, 0))) := Lib.hid (new_at _ _ _ Y2.symm)
  refine (forget1_t e g cg mm tg nt r u _ (al _ E2.out) (al _ C2.out) (al _ D2.out) (al _ N2.out)).mono ?_
  rintro x w4 ⟨rfl, hb4⟩
  have I4 : Hid (w4.heap[w.heap.size]? = some (.mapIter (some m) 1 #[0] 1)) := Lib.hid ((hb4.block _ (lt_of_block (al _ I2.out))).trans (al _ I2.out))
  have M4 : Hid (w4.heap[m]? = some (.map #[{ key := NK, val := .pointer (some ⟨e, 0, none⟩), born := 0 }] 1)) := Lib.hid ((hb4.block _ (lt_of_block (al _ M2.out))).trans (al _ M2.out))
  have Q4 : Hid (w4.heap[w1.heap.size]? = some (.cells #[.bool false, .string SA, .int .i64 0, .int .i64 1, .string S0] 88 (0, 0))) := Lib.hid ((hb4.block _ (lt_of_block Q2.out)).trans Q2.out)
  have K4 : Hid (KX [m] w w4) := Lib.hid ((K2.out.alloc _).trans (KX.of_below hb4))
  clear hb4 hn1 he1 Y2 I1 M1 E1 C1 D1 N1 K1 I2 M2 E2 C2 D2 N2 K2 Q2
  have q0 : w4.cell? ⟨w1.heap.size, 0, none⟩ = some (.bool false) := (cell_of_row w4 _ 0 _ _ _ Q4.out).trans rfl
  have q1 : w4.cell? ⟨w1.heap.size, 1, none⟩ = some (.string SA) := (cell_of_row w4 _ 1 _ _ _ Q4.out).trans rfl
  have q2 : w4.cell? ⟨w1.heap.size, 2, none⟩ = some (.int .i64 0) := (cell_of_row w4 _ 2 _ _ _ Q4.out).trans rfl
  have q3 : w4.cell? ⟨w1.heap.size, 3, none⟩ = some (.int .i64 1) := (cell_of_row w4 _ 3 _ _ _ Q4.out).trans rfl
  have q4 : w4.cell? ⟨w1.heap.size, 4, none⟩ = some (.string S0) := (cell_of_row w4 _ 4 _ _ _ Q4.out).trans rfl
  have hd : (Builtin.delete_ #[83, 88] 0 #[.map (some m), NK]).run Try.prog w4 = .ok (.tuple #[]) (w4.putObj m (.map #[] 1)) := del88 w4 m 1 0 _ M4.out
  go_wp2_with fail
  have M5 : Hid ((w4.putObj m (.map #[] 1)).heap[m]? = some (.map #[] 1)) := Lib.hid (World.putObj_heap_same (lt_of_block M4.out))
  have I5 : Hid ((w4.putObj m (.map #[] 1)).heap[w.heap.size]? = some (.mapIter (some m) 1 #[0] 1)) := Lib.hid ((World.putObj_heap_other NE.out.1.symm).trans I4.out)
  have K5 : Hid (KX [m] w (w4.putObj m (.map #[] 1))) := Lib.hid (K4.out.put (Or.inl (by simp)))
  clear hd q0 q1 q2 q3 q4 M4 I4 K4 Q4
  generalize w4.putObj m (.map #[] 1) = w5 at M5 I5 K5 ⊢
  have hn2 : ∀ t, (Instr.next (.pointer (some ⟨w.heap.size, 0, none⟩)) false t).run Try.prog w5 = .ok (.tuple #[.bool false]) w5 := fun t => next_end w5 m w.heap.size t M5.out I5.out
  rw [rounds_succ]
  go_wp2_with fail
  exact bodyPost_end (results_none rfl _ _ _) rfl ⟨rfl, M5.out, K5.out⟩
theorem run_store_fn (T : TypeId) (hT : (Try.prog.info? T).map (·.size) = some 1) (w : World) (g i : Nat) (f : Fn) (x y : Array Value) (old : Array Value) (t : TypeId) (hg : w.heap[g]? = some (.cells old t (0, 0))) (hi : i < old.size) :
    (storeVar T ⟨g, i, none⟩ (.func f x y)).run Try.prog w = .ok () (w.setCells g i [.func f x y]) := by
  have ht := there_of_block (n := 1) (o := i) hg (by omega)
  have := run_storeCells_cells (P := Try.prog) g i [.func f x y] 0 w (fun j hj => by simpa using (ht j (by simpa using hj)).1) (fun j hj => by simpa using (ht j (by simpa using hj)).2) (fun v hv => by simp at hv; subst hv; rfl)
  simp only [Nat.add_zero] at this
  cases hq : Try.prog.info? T with
  | none => simp [hq] at hT
  | some i =>
    have hs : i.size = 1 := by simpa [hq] using hT
    simp [storeVar, sizeOf, typeInfo, hq, Value.cells, hs, this]
theorem size133 : (Try.prog.info? 133).map (·.size) = some 1 := by kernel_rfl
theorem size118 : (Try.prog.info? 118).map (·.size) = some 1 := by kernel_rfl
theorem store_fn (T : TypeId) (hT : (Try.prog.info? T).map (·.size) = some 1) {ops : Array Oper} {rest : List Oper} {o : Oper} {a : Act} {w : World} {Q : Exit → Act → World → Prop} (hgd : o.guard = none) (u v : Operand) (ho : o.op = .store T u v)
    (g i : Nat) (f : Fn) (x y : Array Value) (hx : a.eval u = .pointer (some ⟨g, i, none⟩)) (hy : a.eval v = .func f x y) (old : Array Value) (t : TypeId) (hg : w.heap[g]? = some (.cells old t (0, 0))) (hi : i < old.size)
    (h : ∀ w', Puts g (old.setIfInBounds i (.func f x y)) t w w' → wpList Try.prog ops Q rest (a.put o.dst undef) w') : wpList Try.prog ops Q (o :: rest) a w :=
  wpList_plain hgd fun _ hK => by
    unfold Oper.wp execOp
    simp only [ho, hx, hy, Instr.storeAt, Instr.sureAddr, Sem.run_bind, Sem.run_pure, Result.andThen_ok, run_store_fn T hT w g i f x y old t hg hi]
    exact hK _ _ (h _ (puts_setCell _ hg))
set_option maxHeartbeats 2000000 in
theorem touching_t (r : Nat) (w : World) :
    Calls Try.prog 75 #[.agg (NT r)] w fun x w' => (∃ p q s : Nat, x = .returned (.func (.func 88) #[] #[.pointer (some ⟨p, 0, none⟩), .pointer (some ⟨q, 0, none⟩), .pointer (some ⟨s, 0, none⟩)])) ∧ Below w.heap.size w w' := by
  have hmm := @run_makeMap Try.prog
  have B1 : Hid (Below w.heap.size w ((((((w.alloc (.cells (NT r) 65)).alloc (.map #[] 0)).alloc (.map #[] 0)).alloc (.cells #[.map (some (w.heap.size + 1))] 130)).alloc (.cells #[.map (some (w.heap.size + 1 + 1))] 130)).alloc (.cells #[.nilFunc] 133))) := Lib.hid (by go_grown)
  have F1 : Hid (((((((w.alloc (.cells (NT r) 65)).alloc (.map #[] 0)).alloc (.map #[] 0)).alloc (.cells #[.map (some (w.heap.size + 1))] 130)).alloc (.cells #[.map (some (w.heap.size + 1 + 1))] 130)).alloc (.cells #[.nilFunc] 133)).heap[w.heap.size + 1 + 1 + 1 + 1 + 1]? = some (.cells #[.nilFunc] 133 (0, 0))) := Lib.hid (new_at _ _ _ (by simp))
  have N1 : Hid (((((((w.alloc (.cells (NT r) 65)).alloc (.map #[] 0)).alloc (.map #[] 0)).alloc (.cells #[.map (some (w.heap.size + 1))] 130)).alloc (.cells #[.map (some (w.heap.size + 1 + 1))] 130)).alloc (.cells #[.nilFunc] 133)).heap[w.heap.size]? = some (.cells (NT r) 65 (0, 0))) := Lib.hid (al _ (al _ (al _ (al _ (al _ (heap_alloc_new w _))))))
  go_enter Try.func75, Try.ntmps75
  go_wp2_with (refine store_fn 133 size133 rfl (.tmp 5) _ rfl (w.heap.size + 1 + 1 + 1 + 1 + 1) 0 (.func 87) #[] #[] rfl rfl _ 133 F1.out (by simp) ?_; intro w2 hp; have B2 : Hid (Below w.heap.size w w2) := Lib.hid (hp.below B1.out (by omega)); have N2 : Hid (w2.heap[w.heap.size]? = some (.cells (NT r) 65 (0, 0))) := Lib.hid ((hp.keeps.block _ (lt_of_block N1.out) (by omega)).trans N1.out); clear hp B1 F1 N1; have n2 : w2.cell? ⟨w.heap.size, 2, none⟩ = some (.slice none 0 0) := (cell_of_row w2 _ 2 _ _ _ N2.out).trans rfl)
  refine wp_loop_rounds 1 ?_
  rw [rounds_succ]
  go_wp2_with fail
  go_ret
  exact ⟨⟨_, _, _, rfl⟩, B2.out⟩
end Ytbihfgcejlgffaa
end Go.Proofs
