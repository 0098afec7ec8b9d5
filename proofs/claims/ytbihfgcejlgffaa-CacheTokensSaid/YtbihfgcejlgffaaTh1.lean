/- The law's state: a stream, and the list of tenants that is being made. -/
import Derived.Test.YtbihfgcejlgffaaPk
import Derived.Test.YtbihfgcejlgffaaTkg
namespace Go.Proofs
open Go.RowKit
namespace Ytbihfgcejlgffaa
set_option maxRecDepth 100000
structure Ts (a : Option Addr) (len cap t : Nat) (T : List Int) (v : Value) (w w' : World) : Prop where
  st : w'.heap[w.heap.size]? = some (.cells #[.slice a len cap, .int .i64 t] 25 (0, 0))
  own : w'.ownsRow (w.heap.size + 1) 3 1 v T.length (T.map (Value.int .i64))
  keep : Keeps w.heap.size w w'
section
variable {a : Option Addr} {len cap t : Nat} {T : List Int} {v : Value} {w w1 w2 : World}
theorem Ts.sm (h : Ts a len cap t T v w w1) (hI : IntsAt w a len) : Sm w.heap.size a len cap t w1 := ⟨h.st, (hI.ip' (Nat.le_refl _)).keeps h.keep⟩
theorem Ts.call {t' : Nat} (h : Ts a len cap t T v w w1) (hS : Sm w.heap.size a len cap t' w2) (hK : Keeps w.heap.size w1 w2) : Ts a len cap t' T v w w2 := by
  refine ⟨hS.1, ?_, h.keep.trans hK⟩
  obtain ⟨h1, h2⟩ := h.own
  refine ⟨h1, ?_⟩
  rcases h2 with h2 | ⟨g, c, cur, hv, h3, h4, h5⟩
  · exact Or.inl h2
  · exact Or.inr ⟨g, c, cur, hv, h3, (hK.block g (lt_of_block h4) (by omega)).trans h4, h5⟩
theorem Ts.below (h : Ts a len cap t T v w w1) (hb : Below w1.heap.size w1 w2) : Ts a len cap t T v w w2 := by
  refine ⟨(hb.block _ (lt_of_block h.st)).trans h.st, ?_, h.keep.trans (Keeps.of_below hb)⟩
  obtain ⟨h1, h2⟩ := h.own
  refine ⟨h1, ?_⟩
  rcases h2 with h2 | ⟨g, c, cur, hv, h3, h4, h5⟩
  · exact Or.inl h2
  · exact Or.inr ⟨g, c, cur, hv, h3, (hb.block g (lt_of_block h4)).trans h4, h5⟩
theorem Ts.alloc (h : Ts a len cap t T v w w1) (o : Obj) : Ts a len cap t T v w (w1.alloc o) := h.below ((Below.refl _ _).alloc (Nat.le_refl _) o)
theorem Ts.zs (h : Ts a len cap t T v w w1) : ∃ p c, v = .slice p T.length c ∧ Zs w1 p T := by
  rcases h.own.2 with ⟨rfl, h0⟩ | ⟨g, c, cur, rfl, h3, h4, h5, h6, h7, h8⟩
  · have : T = [] := List.eq_nil_of_length_eq_zero h0
    subst this
    exact ⟨none, 0, rfl, Or.inl rfl⟩
  · refine ⟨_, c, rfl, Or.inr ⟨g, 0, rfl, fun j hj => ?_⟩⟩
    have hH := Go.holds_of_blockI (ss := T) h4 (by simpa using h8)
    have := (hH j (by simpa using hj)).1
    simpa [List.getD, hj] using this
theorem wpList_pushI {ops : Array Oper} {rest : List Oper} {o : Oper} {ac : Act} {wc : World} {Q : Exit → Act → World → Prop} (hgd : o.guard = none) (s x : Operand) (ho : o.op = .call { callee := .builtin .append, args := #[s, x], argTypes := #[22, 22] })
    (a : Option Addr) (len cap t : Nat) (w wr : World) (T : List Int) (v : Value) (y : Int) (hs : ac.eval s = v) (hA : Ts a len cap t T v w wr) (hw : wc = wr.alloc (.cells #[.int .i64 y] 3)) (hx : ac.eval x = .slice (some ⟨wr.heap.size, 0, none⟩) 1 1) (hlen : T.length ≤ 100000)
    (h : ∀ v' w', Ts a len cap t (T ++ [y]) v' w w' → wpList Try.prog ops Q rest (ac.put o.dst v') w') : wpList Try.prog ops Q (o :: rest) ac wc := by
  subst hw
  obtain ⟨i3, hi, hz0, hz1, hz2⟩ := info_parts info3i
  have hA1 := hA.alloc (.cells #[.int .i64 y] 3)
  have hp := lt_of_block hA1.st
  refine wpList_append_own _ hgd s x 22 ho (w.heap.size + 1) 3 i3 (.int .i64 0) 1 8 Try.underlying22 hi hz0 hz1 hz2 rfl (by decide) v T.length _ hs hA1.own ⟨wr.heap.size, 0, none⟩ 1 1 [.int .i64 y] hx rfl ?_ (by simp [Value.oneCell']) (by unfold maxLen; omega) (by omega) (by omega) ?_
  · intro j u hj
    have hadd : (⟨wr.heap.size, 0, none⟩ : Addr).add j = ⟨wr.heap.size, j, none⟩ := by unfold Addr.add; split <;> simp_all
    rw [hadd, cell_of_row _ _ j _ _ _ (heap_alloc_new wr _)]
    simpa using hj
  · intro v' w' h1 h2 _
    have hno : ∀ k, k ≤ w.heap.size → some k ≠ v.ownBlock := fun k hk e => by have := (hA1.own.lt k e.symm).1; omega
    refine h v' w' ⟨(h2.block _ hp (hno _ (Nat.le_refl _))).trans hA1.st, by simpa using h1, ⟨h2.os.trans hA1.keep.os, h2.tape.trans hA1.keep.tape, h2.output.trans hA1.keep.output, Nat.le_trans hA1.keep.size h2.size, fun k hk hx => (h2.block k (by omega) (hno k (Nat.le_of_lt hk))).trans (hA1.keep.block k hk hx)⟩⟩
end
end Ytbihfgcejlgffaa
end Go.Proofs
