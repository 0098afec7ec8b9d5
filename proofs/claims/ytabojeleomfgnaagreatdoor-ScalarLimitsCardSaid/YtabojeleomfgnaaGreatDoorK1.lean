/- The kinds of the Args of add(:a,5). -/
import Derived.Test.YtabojeleomfgnaaGreatDoorJ1
namespace Go.Proofs
open Go.RowKit
namespace YtabojeleomfgnaaGreatDoor
set_option maxRecDepth 100000
/-- one column, named a, of the kind Int, at block bc -/
structure Col (bc : Nat) (w : World) : Prop where
  c0 : w.cell? ⟨bc, 0, none⟩ = some (.string ⟨#[]⟩)
  c1 : w.cell? ⟨bc, 1, none⟩ = some (.string SA)
  c2 : w.cell? ⟨bc, 2, none⟩ = some (.int .i64 2)
  lt : bc < w.heap.size
theorem Col.below {bc : Nat} {w w' : World} (h : Col bc w) (hb : Below w.heap.size w w') : Col bc w' :=
  ⟨(hb.cell (p := ⟨bc, 0, none⟩) h.lt).trans h.c0, (hb.cell (p := ⟨bc, 1, none⟩) h.lt).trans h.c1, (hb.cell (p := ⟨bc, 2, none⟩) h.lt).trans h.c2, Nat.lt_of_lt_of_le h.lt hb.size⟩
abbrev scopeV (bc : Nat) (ps : Value) : Value := .agg #[.slice (some ⟨bc, 0, none⟩) 1 1, ps]
theorem eqA : (SA.toList == SA.toList) = true := by simp
set_option maxHeartbeats 1000000 in
theorem column_A (bc : Nat) (pa : Option Addr) (w : World) (h : Col bc w) : Calls Tryz.prog 206 #[scopeV bc (.slice pa 0 0), EA] w fun e w' => e = .returned (.int .i64 0) ∧ Below w.heap.size w w' := by
  obtain ⟨c0, c1, c2, hl⟩ := h
  have hl1 : bc < w.heap.size + 1 := by omega
  have hl2 : bc < w.heap.size + 1 + 1 := by omega
  go_enter Tryz.func206, Tryz.ntmps206
  go_wp2
  go_rounds 1
  go_ret
  exact ⟨rfl, by go_grown⟩
set_option maxHeartbeats 1000000 in
theorem kindOf_5 (bc : Nat) (pa : Option Addr) (w : World) : Calls Tryz.prog 200 #[scopeV bc (.slice pa 0 0), E5] w fun e w' => e = .returned (.tuple #[.int .i64 2, .int .i64 0]) ∧ Below w.heap.size w w' := by
  go_enter Tryz.func200, Tryz.ntmps200
  go_wp2_with fail
  refine wp_loop_rounds 1 ?_
  rw [rounds_succ]
  go_wp2_with fail
  refine (cp5 _).mono ?_
  rintro e w1 ⟨rfl, hb1⟩
  obtain ⟨hc1, hf1⟩ := bcell hb1
  have hz1_0 : w.heap.size < w1.heap.size := lt_after hb1 (by (try simp only [World.size_alloc]); repeat (first | (with_reducible assumption) | exact Nat.lt_add_one _ | apply Nat.lt_add_one_of_lt))
  have hz1_1 : w.heap.size + 1 < w1.heap.size := lt_after hb1 (by (try simp only [World.size_alloc]); repeat (first | (with_reducible assumption) | exact Nat.lt_add_one _ | apply Nat.lt_add_one_of_lt))
  go_wp2
  go_ret2
  exact ⟨rfl, below_call (by go_grown) hb1⟩
set_option maxHeartbeats 1000000 in
theorem kindOf_A (bc : Nat) (pa : Option Addr) (w : World) (h : Col bc w) : Calls Tryz.prog 200 #[scopeV bc (.slice pa 0 0), EA] w fun e w' => e = .returned (.tuple #[.int .i64 2, .int .i64 0]) ∧ Below w.heap.size w w' := by
  have H := fun w' => fun hb : Below w.heap.size w w' => Lib.hid (h.below hb)
  clear h
  go_enter Tryz.func200, Tryz.ntmps200
  go_wp2_with fail
  refine wp_loop_rounds 1 ?_
  rw [rounds_succ]
  go_wp2_with fail
  refine (cpA _).mono ?_
  rintro e w1 ⟨rfl, hb1⟩
  obtain ⟨hc1, hf1⟩ := bcell hb1
  have hz1_0 : w.heap.size < w1.heap.size := lt_after hb1 (by (try simp only [World.size_alloc]); repeat (first | (with_reducible assumption) | exact Nat.lt_add_one _ | apply Nat.lt_add_one_of_lt))
  have hz1_1 : w.heap.size + 1 < w1.heap.size := lt_after hb1 (by (try simp only [World.size_alloc]); repeat (first | (with_reducible assumption) | exact Nat.lt_add_one _ | apply Nat.lt_add_one_of_lt))
  go_wp2_with fail
  have C1 := H w1 (below_call (by go_grown) hb1)
  refine (column_A bc pa _ C1.out).mono ?_
  rintro e w2 ⟨rfl, hb2⟩
  obtain ⟨hc2, hf2⟩ := bcell hb2
  have hz2_0 : w.heap.size < w2.heap.size := lt_after hb2 (by (try simp only [World.size_alloc, World.size_setCell, World.size_drew]); repeat (first | (with_reducible assumption) | exact Nat.lt_add_one _ | apply Nat.lt_add_one_of_lt))
  have hz2_1 : w.heap.size + 1 < w2.heap.size := lt_after hb2 (by (try simp only [World.size_alloc, World.size_setCell, World.size_drew]); repeat (first | (with_reducible assumption) | exact Nat.lt_add_one _ | apply Nat.lt_add_one_of_lt))
  have C2 := Lib.hid (C1.out.below hb2)
  have x0 := C2.out.c0
  have x1 := C2.out.c1
  have x2 := C2.out.c2
  go_wp2
  go_ret2
  exact ⟨rfl, below_call (below_call (by go_grown) hb1) hb2⟩
end YtabojeleomfgnaaGreatDoor
end Go.Proofs
