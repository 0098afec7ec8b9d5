/- The reader at the head add: the two Args. -/
import Derived.Test.YtabojeleomfgnaaGreatDoorF1
import Derived.OwnWalk
namespace Go.Proofs
open Go.RowKit
namespace YtabojeleomfgnaaGreatDoor
set_option maxRecDepth 100000
theorem info70 : (Tryz.prog.info? 70).map (fun i => (i.zero, i.size, i.bytes)) = some (some (.agg Z13), 13, 192) := by kernel_rfl
theorem own_some {w : World} {base n : Nat} {e : TypeId} {size : Nat} {v : Value} {xs : List Value} (h : w.ownsRow base e size v (n + 1) xs) : ∃ b cap, v = .slice (some ⟨b, 0, none⟩) (n + 1) cap ∧ base ≤ b := by
  obtain ⟨_, h | ⟨g, cap, cur, hv, hb, _⟩⟩ := h
  · omega
  · exact ⟨g, cap, hv, hb⟩
/-- while the Args are read: the reader, the head's block, the result's block, the row of Args -/
structure CS (p g ge n : Nat) (T : ByteArray) (V : Value) (xs : List Value) (w0 w : World) : Prop where
  rd : Rd w p T
  head : w.heap[ge]? = some (.cells (exprC 4 12 0 0 0 ⟨#[]⟩ ⟨#[]⟩ ⟨#[]⟩ V) 70 (0, 0))
  res : w.heap[g]? = some (.cells Z13 70 (0, 0))
  keeps : Keeps p w0 w
  own : w.ownsRow (ge + 1) 70 13 V n xs
  pg : p < g
  gge : g < ge
  old : w0.heap.size ≤ g
theorem CS.alloc {p g ge n : Nat} {T : ByteArray} {V : Value} {xs : List Value} {w0 w : World} (h : CS p g ge n T V xs w0 w) (o : Obj) : CS p g ge n T V xs w0 (w.alloc o) :=
  ⟨rd_alloc h.rd o, (heap_alloc_old _ _ (lt_of_block h.head)).trans h.head, (heap_alloc_old _ _ (lt_of_block h.res)).trans h.res, h.keeps.alloc o, h.own.alloc o, h.pg, h.gge, h.old⟩
theorem CS.goes {p g ge n : Nat} {T T' : ByteArray} {V : Value} {xs : List Value} {w0 w w' : World} (h : CS p g ge n T V xs w0 w) (hk : Keeps p w w') (hr : Rd w' p T') : CS p g ge n T' V xs w0 w' :=
  ⟨hr, (hk.block _ (lt_of_block h.head) (by have := h.pg; have := h.gge; omega)).trans h.head, (hk.block _ (lt_of_block h.res) (Nat.ne_of_gt h.pg)).trans h.res, h.keeps.trans hk,
   h.own.kept (row := some p) ⟨hk.os, hk.tape, hk.output, hk.size, fun k hk1 hk2 => hk.block k hk1 (fun e => hk2 (by rw [e]))⟩ (by
     cases hv : V.ownBlock with
     | none => exact .inl rfl
     | some k => exact .inr (fun e => by have := (h.own.lt k hv).1; have := h.pg; have := h.gge; simp only [Option.some.injEq] at e; omega)), h.pg, h.gge, h.old⟩
/-- behind an append to the row, and the store of the new slice into the head -/
theorem CS.grows {p g ge n : Nat} {T : ByteArray} {V V' : Value} {xs ys : List Value} {m : Nat} {w0 w w' : World} (h : CS p g ge n T V xs w0 w) (hg : w.grownBy w' V.ownBlock) (ho : w'.ownsRow (ge + 1) 70 13 V' m ys) :
    CS p g ge m T V' ys w0 (w'.setCell ⟨ge, 9, none⟩ V') := by
  have hne : ∀ k, k ≤ ge → some k ≠ V.ownBlock := fun k hk e => by have := (h.own.lt k e.symm).1; omega
  have h1 := (hg.block p (lt_of_block h.rd) (hne p (by have := h.pg; have := h.gge; omega))).trans h.rd
  have h2 := (hg.block ge (lt_of_block h.head) (hne ge (Nat.le_refl _))).trans h.head
  have h3 := (hg.block g (lt_of_block h.res) (hne g (Nat.le_of_lt h.gge))).trans h.res
  have hp : p ≠ ge := by have := h.pg; have := h.gge; omega
  refine ⟨(heap_setCell_other w' _ p _ hp).trans h1, (heap_setCell_same w' ge 9 _ 70 V' h2).trans rfl, (heap_setCell_other w' _ g _ (Nat.ne_of_lt h.gge)).trans h3, ?_, ?_, h.pg, h.gge, h.old⟩
  · have hk : Keeps p w0 w' := ⟨hg.os.trans h.keeps.os, hg.tape.trans h.keeps.tape, hg.output.trans h.keeps.output, Nat.le_trans h.keeps.size hg.size, fun k hk hkp =>
      (hg.block k (Nat.lt_of_lt_of_le hk h.keeps.size) (hne k (by have := h.old; have := h.gge; omega))).trans (h.keeps.block k hk hkp)⟩
    exact ⟨by simpa [World.setCell] using hk.os, by simpa [World.setCell] using hk.tape, by simpa [World.setCell] using hk.output, by simpa using hk.size, fun k hk1 hkp =>
      (heap_setCell_other w' _ k _ (by have := h.old; have := h.gge; simp only; omega)).trans (hk.block k hk1 hkp)⟩
  · exact ownsRow_setCell_other ho (by
      cases hv : V'.ownBlock with
      | none => simp
      | some k => have := (ho.lt k hv).1; simp only [ne_eq, Option.some.injEq]; omega) _
theorem CS.cell9 {p g ge n : Nat} {T : ByteArray} {V : Value} {xs : List Value} {w0 w : World} (h : CS p g ge n T V xs w0 w) : w.cell? ⟨ge, 9, none⟩ = some V := (cell_of_row w ge 9 _ _ _ h.head).trans rfl
theorem CS.free9 {p g ge n : Nat} {T : ByteArray} {V : Value} {xs : List Value} {w0 w : World} (h : CS p g ge n T V xs w0 w) : w.frozen? ⟨ge, 9, none⟩ = false := frozen_of_row w ge 9 _ _ h.head
theorem exprA (p : Nat) (w : World) (hr : Rd w p T2) : Calls Tryz.prog 165 #[.pointer (some ⟨p, 0, none⟩)] w fun e w' => e = .returned (.tuple #[EA, .bool true]) ∧ Rd w' p T4 ∧ Keeps p w w' :=
  expr_gen (fun _ => True) p T2 T4 3 0 0 0 0 ⟨#[]⟩ ⟨#[]⟩ SA none 0 0 w hr (fun w h => partA p w h) (fun _ _ _ _ => trivial) trivial (fun w _ => cwpA w)
theorem expr5 (p : Nat) (w : World) (hr : Rd w p T5) : Calls Tryz.prog 165 #[.pointer (some ⟨p, 0, none⟩)] w fun e w' => e = .returned (.tuple #[E5, .bool true]) ∧ Rd w' p T6 ∧ Keeps p w w' :=
  expr_gen (fun _ => True) p T5 T6 1 0 0 2 5 ⟨#[]⟩ ⟨#[]⟩ ⟨#[]⟩ none 0 0 w hr (fun w h => part5 p w h) (fun _ _ _ _ => trivial) trivial (fun w _ => cwp5 w)
end YtabojeleomfgnaaGreatDoor
end Go.Proofs
