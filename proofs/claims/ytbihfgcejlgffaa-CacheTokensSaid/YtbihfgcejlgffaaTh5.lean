/- The token that is changed, in the law. -/
import Derived.Test.YtbihfgcejlgffaaTh4
namespace Go.Proofs
open Go.RowKit
namespace Ytbihfgcejlgffaa
set_option maxRecDepth 100000
/-- a token at block q, its tenants in a block of their own -/
structure Tq (w : World) (q : Nat) (p : Option Addr) (c : Nat) (T : List Int) (U S : Int) (wx : World) : Prop where
  row : wx.heap[q]? = some (.cells (ck p T.length c U S) 32 (0, 0))
  zs : Zs wx p T
  own : T = [] ∨ ∃ g, p = some ⟨g, 0, none⟩ ∧ w.heap.size < g ∧ g ≠ q
  lt : w.heap.size < q
section
variable {w wx wy : World} {q c : Nat} {p : Option Addr} {T : List Int} {U S : Int}
theorem Tq.keeps (h : Tq w q p c T U S wx) (hk : Keeps w.heap.size wx wy) : Tq w q p c T U S wy := by
  refine ⟨(hk.block _ (lt_of_block h.row) (by have := h.lt; omega)).trans h.row, ?_, h.own, h.lt⟩
  rcases h.own with e | ⟨g, rfl, h1, h2⟩
  · exact Or.inl e
  · exact h.zs.keeps hk (by omega)
theorem Tq.below (h : Tq w q p c T U S wx) (hb : Below wx.heap.size wx wy) : Tq w q p c T U S wy :=
  ⟨(hb.block _ (lt_of_block h.row)).trans h.row, h.zs.below hb, h.own, h.lt⟩
theorem Tq.puts {U' S' : Int} (h : Tq w q p c T U S wx) (hp : Puts q (ck p T.length c U' S') 32 wx wy) : Tq w q p c T U' S' wy := by
  refine ⟨hp.at', ?_, h.own, h.lt⟩
  rcases h.own with e | ⟨g, rfl, h1, h2⟩
  · exact Or.inl e
  · exact h.zs.keeps hp.keeps h2
theorem Tq.drew (h : Tq w q p c T U S wx) (n : Nat) : Tq w q p c T U S (wx.drewN n) := ⟨h.row, h.zs, h.own, h.lt⟩
end
section
variable {a : Option Addr} {len cap t : Nat} {T : List Int} {v : Value} {w w1 w2 : World}
theorem Ts.drop (h : Ts a len cap t T v w w1) : Ts a len cap t [] (.slice none 0 0) w w1 := ⟨h.st, World.ownsRow_nil _ _ _ _, h.keep⟩
theorem Ts.drewN (h : Ts a len cap t T v w w1) (n : Nat) : Ts a len cap t T v w (w1.drewN n) := ⟨h.st, h.own, ⟨h.keep.os, h.keep.tape, h.keep.output, h.keep.size, h.keep.block⟩⟩
theorem Ts.puts {g : Nat} {cells : Array Value} {ty : TypeId} (h : Ts a len cap t [] (.slice none 0 0) w w1) (hp : Puts g cells ty w1 w2) (hg : w.heap.size < g) : Ts a len cap t [] (.slice none 0 0) w w2 :=
  ⟨(hp.keeps.block _ (lt_of_block h.st) (by omega)).trans h.st, World.ownsRow_nil _ _ _ _, ⟨hp.keeps.os.trans h.keep.os, hp.keeps.tape.trans h.keep.tape, hp.keeps.output.trans h.keep.output, by rw [hp.size]; exact h.keep.size, fun k hk hx => (hp.keeps.block k (Nat.lt_of_lt_of_le hk h.keep.size) (by omega)).trans (h.keep.block k hk hx)⟩⟩
theorem Ts.fin (h : Ts a len cap t T v w w1) : Below w.heap.size w w1 := ⟨h.keep.os, h.keep.tape, h.keep.output, h.keep.size, fun k hk => h.keep.block k hk (by omega)⟩
end
/-- a copy owns its numbers -/
theorem clone_o (a : Option Addr) (c : Nat) (zs : List Int) (hl : zs.length ≤ 100000) (w : World) (hI : Zs w a zs) :
    Calls Try.prog 10 #[.slice a zs.length c] w fun e w' => ∃ v, e = .returned v ∧ w'.ownsRow w.heap.size 3 1 v zs.length (zs.map (Value.int .i64)) ∧ Below w.heap.size w w' := by
  by_cases hne : zs = []
  · subst hne
    cases a with
    | none =>
      refine (Try.slices_Clone_int_nil 0 c w).mono ?_
      rintro e w' ⟨rfl, rfl⟩
      exact ⟨_, rfl, World.ownsRow_nil _ _ _ _, Below.refl _ _⟩
    | some a =>
      refine (Try.slices_Clone_int_zero a c w).mono ?_
      rintro e w' ⟨v, rfl, hrow, _, hb⟩
      exact ⟨v, rfl, hrow, hb⟩
  · obtain ⟨b, o, rfl, hb, hc⟩ := hI.lt hne
    refine (Try.slices_Clone_int b o zs.length c zs w (Nat.le_refl _) (by omega) hc).mono ?_
    rintro e w' ⟨v, rfl, hrow, _, hb⟩
    rw [List.take_length] at hrow
    exact ⟨v, rfl, hrow, hb⟩
/-- an append to numbers that are owned -/
theorem wpList_pushO {ops : Array Oper} {rest : List Oper} {o : Oper} {ac : Act} {wc : World} {Q : Exit → Act → World → Prop} (hgd : o.guard = none) (s x : Operand) (ho : o.op = .call { callee := .builtin .append, args := #[s, x], argTypes := #[22, 22] })
    (base : Nat) (wr : World) (T : List Int) (v : Value) (y : Int) (hs : ac.eval s = v) (hA : wr.ownsRow base 3 1 v T.length (T.map (Value.int .i64))) (hB : base ≤ wr.heap.size) (hw : wc = wr.alloc (.cells #[.int .i64 y] 3)) (hx : ac.eval x = .slice (some ⟨wr.heap.size, 0, none⟩) 1 1) (hlen : T.length ≤ 100000)
    (h : ∀ g c' w', w'.ownsRow base 3 1 (.slice (some ⟨g, 0, none⟩) (T.length + 1) c') (T.length + 1) ((T ++ [y]).map (Value.int .i64)) → base ≤ g → (∀ k, k < base → w'.heap[k]? = wr.heap[k]?) → w'.os = wr.os → w'.tape = wr.tape → w'.output = wr.output → wr.heap.size ≤ w'.heap.size → wpList Try.prog ops Q rest (ac.put o.dst (.slice (some ⟨g, 0, none⟩) (T.length + 1) c')) w') : wpList Try.prog ops Q (o :: rest) ac wc := by
  subst hw
  obtain ⟨i3, hi, hz0, hz1, hz2⟩ := info_parts info3i
  have hA1 := hA.alloc (.cells #[.int .i64 y] 3)
  refine wpList_append_own _ hgd s x 22 ho base 3 i3 (.int .i64 0) 1 8 Try.underlying22 hi hz0 hz1 hz2 rfl (by decide) v T.length _ hs hA1 ⟨wr.heap.size, 0, none⟩ 1 1 [.int .i64 y] hx rfl ?_ (by simp [Value.oneCell']) (by unfold maxLen; omega) (by omega) (by simp; omega) ?_
  · intro j u hj
    have hadd : (⟨wr.heap.size, 0, none⟩ : Addr).add j = ⟨wr.heap.size, j, none⟩ := by unfold Addr.add; split <;> simp_all
    rw [hadd, cell_of_row _ _ j _ _ _ (heap_alloc_new wr _)]
    simpa using hj
  · intro v' w' h1 h2 _
    have h1' : w'.ownsRow base 3 1 v' (T.length + 1) ((T ++ [y]).map (Value.int .i64)) := by simpa using h1
    obtain ⟨g, c', rfl⟩ : ∃ g c', v' = .slice (some ⟨g, 0, none⟩) (T.length + 1) c' := by
      rcases h1'.2 with ⟨_, h0⟩ | ⟨g, cap, _, rfl, _⟩
      · omega
      · exact ⟨g, cap, rfl⟩
    have hBA := (Below.refl _ wr).alloc (Nat.le_refl _) (.cells #[.int .i64 y] 3)
    refine h g c' w' h1' (h1'.lt g rfl).1 (fun k hk => ?_) h2.os h2.tape h2.output (Nat.le_trans hBA.size h2.size)
    exact (h2.block k (by have := hBA.size; omega) (fun e => by have := (hA1.lt k e.symm).1; omega)).trans (hBA.block k (by omega))
theorem own_zs {w : World} {base g c' : Nat} {T : List Int} (h : w.ownsRow base 3 1 (.slice (some ⟨g, 0, none⟩) T.length c') T.length (T.map (Value.int .i64))) : Zs w (some ⟨g, 0, none⟩) T := by
  rcases h.2 with ⟨h0, _⟩ | ⟨g', c, cur, hv, h3, h4, h5, h6, h7, h8⟩
  · cases h0
  · cases hv
    refine Or.inr ⟨g, 0, rfl, fun j hj => ?_⟩
    have hH := Go.holds_of_blockI (ss := T) h4 (by simpa using h8)
    have := (hH j (by simpa using hj)).1
    simpa [List.getD, hj] using this
/-- a token with one tenant more -/
theorem Tq.more {w wx wy wz : World} {q c g c' base : Nat} {p : Option Addr} {T : List Int} {U S y : Int} (h : Tq w q p c T U S wx) (hq : q < base) (hw : w.heap.size < base) (hg : base ≤ g)
    (ho : wy.ownsRow base 3 1 (.slice (some ⟨g, 0, none⟩) (T.length + 1) c') (T.length + 1) ((T ++ [y]).map (Value.int .i64))) (hp : Puts q (ck (some ⟨g, 0, none⟩) (T.length + 1) c' U S) 32 wy wz) : Tq w q (some ⟨g, 0, none⟩) c' (T ++ [y]) U S wz := by
  have e : (T ++ [y]).length = T.length + 1 := by simp
  rw [← e] at ho
  have hz := own_zs ho
  refine ⟨by rw [e]; exact hp.at', hz.keeps hp.keeps (by omega), Or.inr ⟨g, rfl, by omega, by omega⟩, h.lt⟩
theorem Ts.grow {a : Option Addr} {len cap t base : Nat} {w w1 w2 : World} (h : Ts a len cap t [] (.slice none 0 0) w w1) (hb : ∀ k, k < base → w2.heap[k]? = w1.heap[k]?) (hw : w.heap.size < base) (h1 : w2.os = w1.os) (h2 : w2.tape = w1.tape) (h3 : w2.output = w1.output) (h4 : w1.heap.size ≤ w2.heap.size) : Ts a len cap t [] (.slice none 0 0) w w2 :=
  ⟨(hb _ hw).trans h.st, World.ownsRow_nil _ _ _ _, ⟨h1.trans h.keep.os, h2.trans h.keep.tape, h3.trans h.keep.output, Nat.le_trans h.keep.size h4, fun k hk hx => (hb k (by omega)).trans (h.keep.block k hk hx)⟩⟩
theorem tq3 {w wx : World} {q c : Nat} {p : Option Addr} {T : List Int} {U S : Int} (h : Tq w q p c T U S wx) : wx.cell? ⟨q, 0, none⟩ = some (.slice p T.length c) ∧ wx.cell? ⟨q, 1, none⟩ = some (.int .i64 U) ∧ wx.cell? ⟨q, 2, none⟩ = some (.int .u64 S) :=
  ⟨(cell_of_row wx _ 0 _ _ _ h.row).trans rfl, (cell_of_row wx _ 1 _ _ _ h.row).trans rfl, (cell_of_row wx _ 2 _ _ _ h.row).trans rfl⟩
end Ytbihfgcejlgffaa
end Go.Proofs
