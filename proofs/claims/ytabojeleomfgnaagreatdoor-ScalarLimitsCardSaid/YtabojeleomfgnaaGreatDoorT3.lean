/- A block of three values: a load and a store at one of them. -/
import Derived.Test.YtabojeleomfgnaaGreatDoorLg4
import Derived.Deep.MidRow
namespace Go.Proofs
open Go.RowKit
namespace YtabojeleomfgnaaGreatDoor
set_option maxRecDepth 100000
abbrev cells9 (x y z : V3) : Array Value := #[.int .i64 x.1, .int .i64 x.2.1, .string x.2.2, .int .i64 y.1, .int .i64 y.2.1, .string y.2.2, .int .i64 z.1, .int .i64 z.2.1, .string z.2.2]
theorem puts_setCell {w : World} {g i : Nat} {old : Array Value} {t : TypeId} (v : Value) (hg : w.heap[g]? = some (.cells old t (0, 0))) : Puts g (old.setIfInBounds i v) t w (w.setCell ⟨g, i, none⟩ v) := by
  have hs : (w.setCell ⟨g, i, none⟩ v).heap.size = w.heap.size := by simp [World.setCell]
  exact ⟨heap_setCell_same w g i old t v hg, ⟨rfl, rfl, rfl, by rw [hs]; exact Nat.le_refl _, fun k _ hk => heap_setCell_other w _ k v hk⟩, hs⟩
theorem Puts.trans {g : Nat} {a b : Array Value} {t : TypeId} {w w1 w2 : World} (h1 : Puts g a t w w1) (h2 : Puts g b t w1 w2) : Puts g b t w w2 :=
  ⟨h2.at', h1.keeps.trans h2.keeps, h2.size.trans h1.size⟩
theorem puts_setCells3 {w : World} {g o : Nat} {old : Array Value} {t : TypeId} (a b c : Value) (hg : w.heap[g]? = some (.cells old t (0, 0))) :
    Puts g (((old.setIfInBounds o a).setIfInBounds (o + 1) b).setIfInBounds (o + 2) c) t w (w.setCells g o [a, b, c]) :=
  ((puts_setCell a hg).trans (puts_setCell b (puts_setCell a hg).at')).trans (puts_setCell c (puts_setCell b (puts_setCell a hg).at').at')
theorem there_of_block {w : World} {g o n : Nat} {old : Array Value} {t : TypeId} (hg : w.heap[g]? = some (.cells old t (0, 0))) (h : o + n ≤ old.size) : w.there g o n := fun j hj => by
  refine ⟨?_, frozen_of_row w g _ old t hg⟩
  rw [cell_of_row w g (o + j) old t _ hg]
  simp
  omega
/-- a store of one of the three -/
theorem store_mid {ops : Array Oper} {rest : List Oper} {o : Oper} {a : Act} {w : World} {Q : Exit → Act → World → Prop} (hgd : o.guard = none) (u v : Operand) (ho : o.op = .store 23 u v)
    (g off : Nat) (x : V3) (hx : a.eval u = .pointer (some ⟨g, off, none⟩)) (hy : a.eval v = toV x) (old new : Array Value) (hg : w.heap[g]? = some (.cells old 108 (0, 0))) (hoff : off + 3 ≤ old.size)
    (hnew : ((old.setIfInBounds off (.int .i64 x.1)).setIfInBounds (off + 1) (.int .i64 x.2.1)).setIfInBounds (off + 2) (.string x.2.2) = new)
    (h : ∀ w', Puts g new 108 w w' → wpList Tryz.prog ops Q rest (a.put o.dst undef) w') : wpList Tryz.prog ops Q (o :: rest) a w :=
  wpList_store_mid hgd 23 u v ho g off (cells x) hx hy (there_of_block hg hoff) size23 (by simp [Value.oneCell']) (h _ (by rw [← hnew]; exact puts_setCells3 _ _ _ hg))
/-- a load of one of the three -/
theorem run_load_mid23 {C : World → Prop} {o : Oper} {a : Act} (u : Operand) (ho : o.op = .load 23 u) (g off : Nat) (x : V3) (old : Array Value) (hx : a.eval u = .pointer (some ⟨g, off, none⟩))
    (hc : old[off]? = some (.int .i64 x.1) ∧ old[off + 1]? = some (.int .i64 x.2.1) ∧ old[off + 2]? = some (.string x.2.2))
    (hS : ∀ w, C w → w.heap[g]? = some (.cells old 108 (0, 0))) (w : World) (hw : C w) : (execOp a.eval o).run Tryz.prog w = .ok (.value (toV x)) w := by
  have hr : w.rangeAt g off [.int .i64 x.1, .int .i64 x.2.1, .string x.2.2] := fun j v hv => by
    rw [cell_of_row w g (off + j) old _ _ (hS w hw)]
    match j, hv with
    | 0, hv => simp at hv; subst hv; exact hc.1
    | 1, hv => simp at hv; subst hv; exact hc.2.1
    | 2, hv => simp at hv; subst hv; exact hc.2.2
    | j + 3, hv => simp at hv
  unfold execOp
  simp only [ho, hx, Instr.loadAt, Instr.sureAddr, Sem.run_bind, Sem.run_pure, Result.andThen_ok, run_loadVar_mid (P := Tryz.prog) w g off 23 _ _ hr Tryz.underlying23 rfl (by exact size23)]
  rfl
end YtabojeleomfgnaaGreatDoor
end Go.Proofs
